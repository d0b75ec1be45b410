"""Point 23 and the interface of reactivesynth/determinization.py."""

import unittest

from reactivesynth.buchi import Automaton, accepts
from reactivesynth.determinization import determinize
from reactivesynth.parity import accepts_parity, complement_parity, to_buchi
from tests.oracles import buchi_accepts, parity_accepts, reached_states
from tests.samples import automaton_parts, generator, lassos, parity_parts, random_automaton


def michel(count):
    """Return an automaton whose determinization needs many states (after Michel)."""
    rows = [[[letter + 1] for letter in range(count)] + [[]]]
    for state in range(1, count + 1):
        rows.append([[0, state] if letter + 1 == state else [state] for letter in range(count + 1)])
    return Automaton(count + 1, list(range(count + 1)), [0], rows)


class DeterminizeTest(unittest.TestCase):
    def check(self, automaton, some):
        before = automaton_parts(automaton)
        parity = determinize(automaton)
        self.assertEqual(automaton_parts(automaton), before)
        self.assertEqual(parity.letters, automaton.letters)
        self.assertLessEqual(max(parity.priorities), 4 * len(automaton.rows) + 4)
        self.assertEqual(reached_states(parity.rows, parity.start), set(range(len(parity.rows))))
        self.assertEqual(parity_parts(determinize(automaton)), parity_parts(parity))
        for lasso in some:
            self.assertIs(parity_accepts(parity, lasso), buchi_accepts(automaton, lasso), (before, lasso))
        return parity

    def test_random_automata_with_two_letters(self):
        chooser = generator(50)
        some = lassos(2, 2, 3) + lassos(2, 0, 5)
        for _ in range(250):
            self.check(random_automaton(chooser, chooser.randint(1, 5), 2), some)

    def test_random_automata_with_other_letters(self):
        chooser = generator(51)
        for _ in range(120):
            self.check(random_automaton(chooser, chooser.randint(1, 4), 3), lassos(3, 1, 3))
            self.check(random_automaton(chooser, chooser.randint(1, 8), 1), lassos(1, 1, 1))

    def test_larger_automata(self):
        chooser = generator(52)
        for _ in range(25):
            self.check(random_automaton(chooser, chooser.randint(6, 8), 2), lassos(2, 1, 4))

    def test_no_deterministic_buchi_automaton(self):
        # From some turn on only 0.
        parity = self.check(Automaton(2, [0], [1], [[[0, 1], [0]], [[1], []]]), lassos(2, 3, 4))
        self.assertFalse(accepts_parity(parity, ((), (0, 0, 0, 1))))
        self.assertTrue(accepts_parity(parity, ((1, 1, 0, 1), (0,))))

    def test_runs_that_must_be_kept_apart(self):
        # Every run comes to an accepting state at some turn, but then it stops.
        self.check(Automaton(2, [0], [1], [[[0, 1], [0, 1]], [[], [2]], [[2], [2]]]), lassos(2, 2, 4))
        # A run may stay with either letter, and it must meet both again and again.
        self.check(Automaton(2, [0, 1], [2], [[[0, 2], [0]], [[1], [1, 2]], [[1], [0]]]), lassos(2, 2, 4))

    def test_nothing_and_everything(self):
        for automaton in (Automaton(2, [], [0], [[[0], [0]]]), Automaton(2, [0], [], [[[0], [0]]]),
                          Automaton(2, [0], [0], [[[], []]])):
            parity = self.check(automaton, lassos(2, 1, 3))
            self.assertFalse(accepts_parity(parity, ((), (0,))))
        parity = self.check(Automaton(2, [0], [0, 1], [[[0, 1], [1]], [[0], [1]]]), lassos(2, 1, 3))
        self.assertTrue(accepts_parity(parity, ((), (0, 1))))

    def test_many_trees(self):
        self.check(michel(2), lassos(3, 1, 5))
        parity = self.check(michel(3), lassos(4, 0, 5))
        self.assertGreater(len(parity.rows), 20)

    def test_many_letters(self):
        chooser = generator(53)
        rows = [[[chooser.randrange(3), 3] if chooser.random() < 0.5 else [chooser.randrange(4)]
                 for _ in range(64)] for _ in range(4)]
        rows = [[sorted(set(states)) for states in row] for row in rows]
        automaton = Automaton(64, [0], [3], rows)
        some = [(tuple(chooser.randrange(64) for _ in range(3)), tuple(chooser.randrange(64) for _ in range(size)))
                for size in (1, 2, 3, 4) for _ in range(30)]
        self.check(automaton, some)

    def test_a_long_way(self):
        count = 60
        rows = [[[state + 1], [0]] for state in range(count - 1)] + [[[count - 1], [count - 1]]]
        parity = self.check(Automaton(2, [0], [count - 1], rows), [((), (0,)), ((), (0, 1)), ((0,) * 58, (1,)),
                                                                   ((0,) * 59, (1,))])
        self.assertLessEqual(len(parity.rows), count + 1)

    def test_complement_of_a_buchi_automaton(self):
        chooser = generator(54)
        for _ in range(60):
            automaton = random_automaton(chooser, chooser.randint(1, 4), 2)
            other = to_buchi(complement_parity(determinize(automaton)))
            same = to_buchi(determinize(automaton))
            for lasso in lassos(2, 1, 4):
                self.assertIs(accepts(other, lasso), not accepts(automaton, lasso))
                self.assertIs(accepts(same, lasso), accepts(automaton, lasso))


if __name__ == "__main__":
    unittest.main()
