"""Points 16 and 17 and the interface of reactivesynth/buchi.py."""

import unittest

from reactivesynth.buchi import Automaton, accepts, find_word
from reactivesynth.errors import InvalidAutomaton, InvalidLetter
from reactivesynth.words import make_lasso
from tests.oracles import buchi_accepts
from tests.samples import automaton_parts, generator, lassos, random_automaton


class AutomatonTest(unittest.TestCase):
    def test_attributes(self):
        automaton = Automaton(2, [0], [1], [[[0], [0, 1]], [[1], []]])
        self.assertEqual(automaton_parts(automaton), (2, (0,), (1,), (((0,), (0, 1)), ((1,), ()))))

    def test_attributes_are_tuples(self):
        automaton = Automaton(1, [0], [0, 1], [[[0, 1]], [[]]])
        for value in (automaton.initial, automaton.accepting, automaton.rows, automaton.rows[0],
                      automaton.rows[0][0], automaton.rows[1][0]):
            self.assertIs(type(value), tuple)

    def test_nothing_initial_or_accepting(self):
        self.assertEqual(automaton_parts(Automaton(1, [], [], [[[]]])), (1, (), (), (((),),)))

    def test_later_changes_have_no_effect(self):
        initial, accepting, rows = [0], [1], [[[0], [0, 1]], [[1], []]]
        automaton = Automaton(2, initial, accepting, rows)
        before = automaton_parts(automaton)
        initial.append(1)
        accepting.clear()
        rows[0][0].append(1)
        rows[1][1] = [0]
        rows.append([[], []])
        self.assertEqual(automaton_parts(automaton), before)

    def test_arguments_stay(self):
        initial, accepting, rows = [0], [1], [[[0], [0, 1]], [[1], []]]
        Automaton(2, initial, accepting, rows)
        self.assertEqual((initial, accepting, rows), ([0], [1], [[[0], [0, 1]], [[1], []]]))

    def test_wrong_automata(self):
        for name, arguments in (
                ("no letter", (0, [], [], [[]])),
                ("negative letters", (-1, [], [], [[]])),
                ("no state", (1, [], [], [])),
                ("no state but an initial one", (1, [0], [], [])),
                ("short row", (2, [], [], [[[], []], [[]]])),
                ("empty row", (1, [], [], [[]])),
                ("long row", (1, [], [], [[[], []]])),
                ("initial too large", (1, [1], [], [[[]]])),
                ("initial negative", (1, [-1], [], [[[]]])),
                ("initial twice", (1, [0, 0], [], [[[]]])),
                ("initial descends", (1, [1, 0], [], [[[]], [[]]])),
                ("accepting too large", (1, [], [0, 2], [[[]], [[]]])),
                ("accepting negative", (1, [], [-1, 0], [[[]]])),
                ("accepting twice", (1, [], [1, 1], [[[]], [[]]])),
                ("accepting descends", (1, [], [1, 0], [[[]], [[]]])),
                ("successor too large", (1, [], [], [[[0, 1]]])),
                ("successor negative", (2, [], [], [[[], [-1]]])),
                ("successor twice", (1, [], [], [[[]], [[0, 1, 1]]])),
                ("successors descend", (1, [], [], [[[]], [[0, 2, 1]], [[]]])),
                ("last successor", (2, [0], [0], [[[0], [0]], [[0], [2]]]))):
            with self.subTest(name):
                with self.assertRaises(InvalidAutomaton):
                    Automaton(*arguments)


class AcceptsTest(unittest.TestCase):
    def test_example(self):
        automaton = Automaton(2, [0], [1], [[[0], [0, 1]], [[1], []]])
        self.assertIs(accepts(automaton, ((1, 1), (0,))), True)

    def test_a_letter_once_too_often(self):
        automaton = Automaton(2, [0], [1], [[[0], [0, 1]], [[1], []]])
        for lasso, expected in ((((), (0,)), False), (((1,), (0,)), True), (((0, 1, 0), (0, 0)), True),
                                (((), (1,)), False), (((1, 0), (1, 0)), False), (((1, 0, 1, 0), (0,)), True)):
            with self.subTest(lasso):
                self.assertIs(accepts(automaton, lasso), expected)

    def test_no_initial_state(self):
        automaton = Automaton(1, [], [0], [[[0]]])
        self.assertIs(accepts(automaton, ((), (0,))), False)

    def test_no_accepting_state(self):
        automaton = Automaton(1, [0], [], [[[0]]])
        self.assertIs(accepts(automaton, ((), (0,))), False)

    def test_accepting_states_only_at_the_beginning(self):
        automaton = Automaton(1, [0], [0], [[[1]], [[1]]])
        self.assertIs(accepts(automaton, ((), (0,))), False)

    def test_several_initial_states(self):
        automaton = Automaton(2, [0, 1], [0, 1], [[[0], []], [[], [1]]])
        for lasso, expected in ((((), (0,)), True), (((), (1,)), True), (((0,), (1,)), False), (((), (0, 1)), False)):
            self.assertIs(accepts(automaton, lasso), expected)

    def test_a_cycle_longer_than_the_loop(self):
        automaton = Automaton(1, [0], [2], [[[1]], [[2]], [[0]]])
        self.assertIs(accepts(automaton, ((), (0,))), True)
        self.assertIs(accepts(automaton, ((), (0, 0))), True)
        slow = Automaton(2, [0], [1], [[[], [1]], [[2], []], [[], [0]]])
        self.assertIs(accepts(slow, ((), (1, 0, 1))), True)
        self.assertIs(accepts(slow, ((), (1, 0))), False)

    def test_words_in_any_form(self):
        automaton = Automaton(2, [0], [0], [[[], [1]], [[0], []]])
        for lasso in (((), (1, 0)), ((), (1, 0, 1, 0)), ((1,), (0, 1)), ((1, 0, 1), (0, 1, 0, 1))):
            self.assertIs(accepts(automaton, lasso), True)

    def test_random_automata(self):
        chooser = generator(20)
        some = lassos(2, 2, 3) + lassos(2, 0, 4)
        found = []
        for _ in range(150):
            automaton = random_automaton(chooser, chooser.randint(1, 5), 2)
            for lasso in some:
                expected = buchi_accepts(automaton, lasso)
                found.append(expected)
                self.assertIs(accepts(automaton, lasso), expected)
        self.assertGreater(found.count(True), 1000)
        self.assertGreater(found.count(False), 1000)

    def test_letters_that_are_too_large(self):
        for automaton in (Automaton(2, [0], [0], [[[0], [0]]]), Automaton(2, [], [], [[[], []]])):
            for lasso in (((2,), (0,)), ((0, 5), (0,)), ((), (2,)), ((0,), (0, 1, 2)), ((10 ** 30,), (1,))):
                with self.subTest(lasso):
                    with self.assertRaises(InvalidLetter):
                        accepts(automaton, lasso)

    def test_many_states(self):
        count = 3000
        rows = [[[(state + 1) % count]] for state in range(count)]
        self.assertIs(accepts(Automaton(1, [0], [count - 1], rows), ((), (0,))), True)
        rows[-1] = [[]]
        self.assertIs(accepts(Automaton(1, [0], [count - 1], rows), ((), (0,))), False)


class FindWordTest(unittest.TestCase):
    def test_example(self):
        self.assertIsNone(find_word(Automaton(2, [0], [1], [[[0], [0, 1]], [[], []]])))

    def test_no_word(self):
        for automaton in (Automaton(1, [], [0], [[[0]]]), Automaton(1, [0], [], [[[0]]]),
                          Automaton(1, [0], [0], [[[]]]), Automaton(1, [0], [0], [[[1]], [[1]]]),
                          Automaton(1, [0], [1], [[[0]], [[1]]])):
            self.assertIsNone(find_word(automaton))

    def test_the_only_word(self):
        self.assertEqual(find_word(Automaton(3, [0], [2], [[[], [1], []], [[], [], [2]], [[2], [], []]])),
                         ((1, 2), (0,)))
        self.assertEqual(find_word(Automaton(2, [0], [0], [[[1], []], [[2], []], [[], [0]]])), ((), (0, 0, 1)))
        self.assertEqual(find_word(Automaton(2, [1], [0], [[[0], []], [[], [0]]])), ((1,), (0,)))

    def test_longest_words(self):
        for count in range(1, 8):
            # A way of count - 1 letters to the only accepting state.
            rows = [[[], [state + 1]] for state in range(count - 1)] + [[[count - 1], []]]
            self.assertEqual(find_word(Automaton(2, [0], [count - 1], rows)), ((1,) * (count - 1), (0,)))
            # A cycle through all states.
            rows = [[[], [state + 1]] for state in range(count - 1)] + [[[0], []]]
            self.assertEqual(find_word(Automaton(2, [0], [0], rows)), ((), (1,) * (count - 1) + (0,)))

    def test_random_automata(self):
        chooser = generator(21)
        empty = 0
        for _ in range(500):
            automaton = random_automaton(chooser, chooser.randint(1, 6), chooser.randint(1, 3))
            lasso = find_word(automaton)
            if lasso is None:
                empty += 1
                for other in lassos(automaton.letters, 1, 2):
                    self.assertFalse(buchi_accepts(automaton, other))
            else:
                self.assertTrue(buchi_accepts(automaton, lasso))
                self.assertLessEqual(len(lasso[0]), len(automaton.rows) - 1)
                self.assertLessEqual(len(lasso[1]), len(automaton.rows))
                self.assertEqual(lasso, make_lasso(*lasso))
                self.assertEqual(lasso, find_word(automaton))
        self.assertGreater(empty, 50)
        self.assertLess(empty, 450)


if __name__ == "__main__":
    unittest.main()
