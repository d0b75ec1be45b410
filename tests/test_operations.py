"""Points 16 and 18 and the interface of reactivesynth/operations.py."""

import unittest

from reactivesynth.buchi import Automaton, accepts, find_word
from reactivesynth.errors import Mismatch
from reactivesynth.operations import hide, intersection, trim, union, widen
from tests.oracles import buchi_accepts
from tests.samples import automaton_parts, generator, lassos, random_automaton, words

NOTHING = Automaton(2, [], [], [[[], []]])
ALL = Automaton(2, [0], [0], [[[0], [0]]])
# Infinitely often 1, infinitely often 0, and from some turn on only 0.
OFTEN_1 = Automaton(2, [0], [1], [[[0], [1]], [[0], [1]]])
OFTEN_0 = Automaton(2, [0], [1], [[[1], [0]], [[1], [0]]])
AT_LAST_0 = Automaton(2, [0], [1], [[[0, 1], [0]], [[1], []]])


def random_pair(chooser):
    letters = chooser.randint(1, 2)
    return (random_automaton(chooser, chooser.randint(1, 4), letters),
            random_automaton(chooser, chooser.randint(1, 4), letters))


class UnionTest(unittest.TestCase):
    def test_words(self):
        chooser = generator(30)
        for _ in range(80):
            first, second = random_pair(chooser)
            both = union(first, second)
            self.assertLessEqual(len(both.rows), len(first.rows) + len(second.rows))
            self.assertEqual(both.letters, first.letters)
            for lasso in lassos(first.letters, 2, 3):
                expected = buchi_accepts(first, lasso) or buchi_accepts(second, lasso)
                self.assertIs(accepts(both, lasso), expected)

    def test_examples(self):
        both = union(OFTEN_1, AT_LAST_0)
        for lasso in lassos(2, 2, 3):
            self.assertTrue(accepts(both, lasso))
        self.assertIsNone(find_word(union(NOTHING, NOTHING)))
        self.assertTrue(accepts(union(NOTHING, ALL), ((), (1,))))
        self.assertTrue(accepts(union(ALL, NOTHING), ((), (1,))))


class IntersectionTest(unittest.TestCase):
    def test_words(self):
        chooser = generator(31)
        for _ in range(120):
            first, second = random_pair(chooser)
            both = intersection(first, second)
            self.assertLessEqual(len(both.rows), 3 * len(first.rows) * len(second.rows))
            self.assertEqual(both.letters, first.letters)
            for lasso in lassos(first.letters, 2, 3):
                expected = buchi_accepts(first, lasso) and buchi_accepts(second, lasso)
                self.assertIs(accepts(both, lasso), expected)

    def test_accepting_states_at_different_turns(self):
        both = intersection(OFTEN_1, OFTEN_0)
        self.assertTrue(accepts(both, ((), (0, 1))))
        self.assertTrue(accepts(both, ((1, 1), (0, 0, 0, 1, 1))))
        self.assertFalse(accepts(both, ((0, 1), (1,))))
        self.assertFalse(accepts(both, ((0, 1), (0,))))

    def test_nothing_in_common(self):
        self.assertIsNone(find_word(intersection(OFTEN_1, AT_LAST_0)))
        self.assertIsNone(find_word(intersection(NOTHING, ALL)))
        self.assertIsNone(find_word(intersection(ALL, NOTHING)))
        self.assertGreaterEqual(len(intersection(NOTHING, ALL).rows), 1)


class HideTest(unittest.TestCase):
    def test_words(self):
        chooser = generator(32)
        for _ in range(80):
            letters, times = chooser.randint(1, 2), chooser.randint(1, 3)
            automaton = random_automaton(chooser, chooser.randint(1, 4), letters * times)
            hidden = hide(automaton, letters)
            self.assertLessEqual(len(hidden.rows), len(automaton.rows))
            self.assertEqual(hidden.letters, letters)
            for head in words(letters, 2):
                for loop in words(letters, 2):
                    if loop:
                        self.assertIs(accepts(hidden, (head, loop)), self.comes_from(automaton, (head, loop), letters))

    def comes_from(self, automaton, lasso, letters):
        """Decide it with an automaton for the words that the lasso's word may come from."""
        head, loop = lasso
        whole = head + loop
        rows = []
        for at, letter in enumerate(whole):
            after = at + 1 if at + 1 < len(whole) else len(head)
            rows.append([[after] if other % letters == letter else [] for other in range(automaton.letters)])
        sources = Automaton(automaton.letters, [0], list(range(len(whole))), rows)
        return find_word(intersection(automaton, sources)) is not None

    def test_examples(self):
        # Over two signals: the first one once more than the second has said.
        automaton = Automaton(4, [0], [0], [[[], [1], [], []], [[], [], [0], []]])
        hidden = hide(automaton, 2)
        for lasso, expected in ((((), (1, 0)), True), (((), (0, 1)), False), (((), (1,)), False)):
            self.assertIs(accepts(hidden, lasso), expected)
        self.assertIs(accepts(hide(automaton, 1), ((), (0,))), True)
        self.assertIs(accepts(hide(automaton, 4), ((), (1, 2))), True)

    def test_mismatch(self):
        automaton = Automaton(4, [0], [0], [[[0], [0], [0], [0]]])
        for letters in (0, -1, -2, -4, 3, 5, 8):
            with self.subTest(letters):
                with self.assertRaises(Mismatch):
                    hide(automaton, letters)


class WidenTest(unittest.TestCase):
    def test_words(self):
        chooser = generator(33)
        for _ in range(60):
            letters, times = chooser.randint(1, 2), chooser.randint(1, 2)
            automaton = random_automaton(chooser, chooser.randint(1, 4), letters)
            wide = widen(automaton, letters * times)
            self.assertLessEqual(len(wide.rows), len(automaton.rows))
            self.assertEqual(wide.letters, letters * times)
            for head, loop in lassos(letters * times, 1, 3):
                narrow = (tuple(letter % letters for letter in head), tuple(letter % letters for letter in loop))
                self.assertIs(accepts(wide, (head, loop)), buchi_accepts(automaton, narrow))

    def test_mismatch(self):
        automaton = Automaton(2, [0], [0], [[[0], [0]]])
        for letters in (0, -1, -2, 1, 3, 5):
            with self.subTest(letters):
                with self.assertRaises(Mismatch):
                    widen(automaton, letters)
        self.assertEqual(widen(automaton, 2).letters, 2)


class MismatchTest(unittest.TestCase):
    def test_different_letters(self):
        for operation in (union, intersection):
            for first, second in ((ALL, Automaton(1, [0], [0], [[[0]]])), (Automaton(3, [], [], [[[], [], []]]), ALL)):
                with self.assertRaises(Mismatch):
                    operation(first, second)


class TrimTest(unittest.TestCase):
    def check(self, automaton, expected):
        self.assertEqual(automaton_parts(trim(automaton)), (automaton.letters,) + expected)

    def test_example(self):
        trimmed = trim(Automaton(1, [0, 1], [2], [[[1, 2]], [[]], [[2]]]))
        self.assertEqual((trimmed.initial, trimmed.accepting, trimmed.rows), ((0,), (1,), (((1,),), ((1,),))))

    def test_unreachable_states(self):
        self.check(Automaton(2, [1], [0, 1, 2], [[[0, 1], [1]], [[1], [2]], [[2], []]]),
                   ((0,), (0, 1), (((0,), (1,)), ((1,), ()))))

    def test_dead_ends(self):
        self.check(Automaton(1, [0], [0, 1], [[[0, 1]], [[]]]), ((0,), (0,), (((0,),),)))

    def test_states_after_the_last_accepting_cycle(self):
        self.check(Automaton(1, [0], [0], [[[0, 1]], [[1, 2]], [[1]]]), ((0,), (0,), (((0,),),)))

    def test_useful_accepting_state_on_no_cycle(self):
        self.check(Automaton(1, [0], [0, 1], [[[1]], [[1]]]), ((0,), (0, 1), (((1,),), ((1,),))))

    def test_accepting_state_on_no_cycle_is_no_goal(self):
        self.check(Automaton(1, [0], [1, 3], [[[1, 3]], [[2]], [[2]], [[3]]]), ((0,), (1,), (((1,),), ((1,),))))

    def test_no_useful_state(self):
        for automaton in (Automaton(2, [], [0], [[[0], [0]]]), Automaton(2, [0], [], [[[0], [0]]]),
                          Automaton(2, [0, 1], [0], [[[1], [1]], [[], [1]]]), NOTHING):
            self.check(automaton, ((), (), (((), ()),)))

    def test_nothing_to_do(self):
        self.assertEqual(automaton_parts(trim(OFTEN_1)), automaton_parts(OFTEN_1))

    def test_random_automata(self):
        chooser = generator(34)
        for _ in range(200):
            automaton = random_automaton(chooser, chooser.randint(1, 6), chooser.randint(1, 2))
            before = automaton_parts(automaton)
            trimmed = trim(automaton)
            self.assertEqual(automaton_parts(automaton), before)
            self.assertEqual(automaton_parts(trim(trimmed)), automaton_parts(trimmed))
            self.assertEqual(automaton_parts(trimmed), self.expected(automaton))
            for lasso in lassos(automaton.letters, 1, 3):
                self.assertIs(accepts(trimmed, lasso), accepts(automaton, lasso))

    def expected(self, automaton):
        """Find the useful states one by one."""
        count = len(automaton.rows)
        edges = {(state, target) for state in range(count) for states in automaton.rows[state] for target in states}
        leads = set(edges)
        for middle in range(count):
            leads |= {(start, end) for start in range(count) for end in range(count)
                      if (start, middle) in leads and (middle, end) in leads}
        goals = [state for state in automaton.accepting if (state, state) in leads]
        kept = [state for state in range(count)
                if (state in automaton.initial or any((start, state) in leads for start in automaton.initial))
                and (state in goals or any((state, goal) in leads for goal in goals))]
        if not kept:
            return automaton.letters, (), (), (((),) * automaton.letters,)

        def renumbered(states):
            return tuple(kept.index(state) for state in states if state in kept)

        return (automaton.letters, renumbered(automaton.initial), renumbered(automaton.accepting),
                tuple(tuple(renumbered(states) for states in automaton.rows[state]) for state in kept))


class EqualResultsTest(unittest.TestCase):
    def test_equal_arguments(self):
        chooser = generator(35)
        for _ in range(20):
            first, second = random_pair(chooser)
            for operation in (union, intersection):
                self.assertEqual(automaton_parts(operation(first, second)), automaton_parts(operation(first, second)))


if __name__ == "__main__":
    unittest.main()
