"""Points 20 to 23 and the interface of reactivesynth/parity.py."""

import unittest

from reactivesynth.buchi import accepts, find_word
from reactivesynth.errors import InvalidAutomaton, InvalidLetter
from reactivesynth.parity import ParityAutomaton, accepts_parity, complement_parity, quotient, to_buchi
from tests.oracles import parity_accepts, reached_states
from tests.samples import generator, lassos, parity_parts, random_parity, words


class ParityAutomatonTest(unittest.TestCase):
    def test_attributes(self):
        parity = ParityAutomaton(2, 1, [0, 3], [[0, 1], [1, 0]])
        self.assertEqual(parity_parts(parity), (2, 1, (0, 3), ((0, 1), (1, 0))))
        for value in (parity.priorities, parity.rows, parity.rows[0]):
            self.assertIs(type(value), tuple)

    def test_later_changes_have_no_effect(self):
        priorities, rows = [0, 3], [[0, 1], [1, 0]]
        parity = ParityAutomaton(2, 1, priorities, rows)
        priorities[0] = 7
        rows[0][0] = 1
        rows.append([0, 0])
        self.assertEqual(parity_parts(parity), (2, 1, (0, 3), ((0, 1), (1, 0))))

    def test_wrong_automata(self):
        for name, arguments in (
                ("no letter", (0, 0, [0], [[]])),
                ("negative letters", (-1, 0, [0], [[]])),
                ("no state", (1, 0, [], [])),
                ("no state but a priority", (1, 0, [1], [])),
                ("too few priorities", (1, 0, [0], [[0], [0]])),
                ("too many priorities", (1, 0, [0, 0], [[0]])),
                ("short row", (2, 0, [0, 0], [[0, 0], [0]])),
                ("long row", (1, 0, [0], [[0, 0]])),
                ("start too large", (1, 1, [0], [[0]])),
                ("start negative", (1, -1, [0], [[0]])),
                ("successor too large", (2, 0, [0, 0], [[0, 0], [0, 2]])),
                ("successor negative", (1, 0, [0, 0], [[0], [-1]])),
                ("negative priority", (1, 0, [0, -1], [[0], [0]])),
                ("negative even priority", (1, 0, [-2], [[0]]))):
            with self.subTest(name):
                with self.assertRaises(InvalidAutomaton):
                    ParityAutomaton(*arguments)


class AcceptsParityTest(unittest.TestCase):
    def test_infinitely_often(self):
        # The priority of state 1 counts while it comes again.
        parity = ParityAutomaton(2, 0, [1, 2], [[0, 1], [0, 1]])
        for lasso, expected in ((((), (1,)), True), (((), (0,)), False), (((1, 1), (0,)), False),
                                (((0, 0), (0, 1)), True), (((), (0, 0, 0, 1)), True)):
            with self.subTest(lasso):
                self.assertIs(accepts_parity(parity, lasso), expected)

    def test_greatest_priority(self):
        parity = ParityAutomaton(3, 0, [4, 3, 2], [[0, 1, 2]] * 3)
        for loop, expected in (((0,), True), ((1,), False), ((2,), True), ((1, 2), False), ((0, 1), True),
                               ((0, 1, 2), True), ((2, 1, 2), False)):
            self.assertIs(accepts_parity(parity, ((1,), loop)), expected)

    def test_priority_0(self):
        self.assertIs(accepts_parity(ParityAutomaton(1, 0, [0], [[0]]), ((), (0,))), True)

    def test_cycle_longer_than_the_loop(self):
        parity = ParityAutomaton(1, 0, [9, 1, 1, 2], [[1], [2], [3], [1]])
        self.assertIs(accepts_parity(parity, ((), (0,))), True)
        self.assertIs(accepts_parity(parity, ((0, 0), (0, 0))), True)

    def test_great_priorities(self):
        parity = ParityAutomaton(2, 0, [10 ** 40, 10 ** 40 + 1], [[0, 1], [0, 1]])
        self.assertIs(accepts_parity(parity, ((1,), (0,))), True)
        self.assertIs(accepts_parity(parity, ((), (0, 1))), False)

    def test_random_automata(self):
        chooser = generator(40)
        for _ in range(100):
            parity = random_parity(chooser, chooser.randint(1, 5), 2, 5)
            for lasso in lassos(2, 2, 3):
                self.assertIs(accepts_parity(parity, lasso), parity_accepts(parity, lasso))

    def test_letters_that_are_too_large(self):
        parity = ParityAutomaton(2, 0, [0], [[0, 0]])
        for lasso in (((2,), (0,)), ((0, 3), (0,)), ((), (2,)), ((1,), (0, 2))):
            with self.assertRaises(InvalidLetter):
                accepts_parity(parity, lasso)


class ComplementTest(unittest.TestCase):
    def test_parts(self):
        parity = ParityAutomaton(2, 1, [0, 7], [[0, 1], [1, 0]])
        self.assertEqual(parity_parts(complement_parity(parity)), (2, 1, (1, 8), ((0, 1), (1, 0))))
        self.assertEqual(parity.priorities, (0, 7))

    def test_words(self):
        chooser = generator(41)
        for _ in range(60):
            parity = random_parity(chooser, chooser.randint(1, 5), 2, 5)
            other = complement_parity(parity)
            for lasso in lassos(2, 2, 3):
                self.assertIs(accepts_parity(other, lasso), not parity_accepts(parity, lasso))


class QuotientTest(unittest.TestCase):
    def test_example(self):
        small = quotient(ParityAutomaton(2, 2, [0, 1, 1], [[0, 0], [2, 0], [1, 0]]))
        self.assertEqual((small.start, small.priorities, small.rows), (0, (1, 0), ((0, 1), (1, 1))))

    def test_numbering(self):
        parity = ParityAutomaton(3, 3, [10, 11, 12, 13], [[0, 0, 0], [0, 0, 0], [1, 0, 0], [3, 2, 0]])
        small = quotient(parity)
        self.assertEqual(parity_parts(small), (3, 0, (13, 12, 10, 11), ((0, 1, 2), (3, 2, 2), (2, 2, 2), (2, 2, 2))))

    def test_states_that_cannot_be_reached(self):
        small = quotient(ParityAutomaton(1, 1, [0, 1, 2], [[1], [1], [2]]))
        self.assertEqual(parity_parts(small), (1, 0, (1,), ((0,),)))

    def test_states_that_differ_late(self):
        rows = [[1], [2], [3], [4], [0]]
        self.assertEqual(len(quotient(ParityAutomaton(1, 0, [1, 1, 1, 1, 2], rows)).rows), 5)
        self.assertEqual(len(quotient(ParityAutomaton(1, 0, [1, 1, 1, 1, 1], rows)).rows), 1)

    def test_priorities_are_compared_as_they_are(self):
        small = quotient(ParityAutomaton(1, 0, [0, 2], [[1], [0]]))
        self.assertEqual(parity_parts(small), (1, 0, (0, 2), ((1,), (0,))))

    def test_random_automata(self):
        chooser = generator(42)
        for _ in range(150):
            letters = chooser.randint(1, 3)
            parity = random_parity(chooser, chooser.randint(1, 7), letters, chooser.choice((0, 1, 1, 2)))
            before = parity_parts(parity)
            small = quotient(parity)
            self.assertEqual(parity_parts(parity), before)
            self.assertEqual(parity_parts(quotient(small)), parity_parts(small))
            self.check_same_priorities(parity, small)
            self.check_fewest(parity, small)
            self.check_order(small)

    def check_same_priorities(self, parity, small):
        for word in words(parity.letters, 4):
            state, other = parity.start, small.start
            for letter in word:
                state, other = parity.rows[state][letter], small.rows[other][letter]
            self.assertEqual(parity.priorities[state], small.priorities[other])

    def check_fewest(self, parity, small):
        """Count the classes of alike states by the priorities after all short words."""
        different = set()
        for start in reached_states(parity.rows, parity.start):
            row = []
            level = [start]
            for _ in range(len(parity.rows)):
                row.append(tuple(parity.priorities[state] for state in level))
                level = [target for state in level for target in parity.rows[state]] if len(level) < 800 else level
            different.add(tuple(row))
        self.assertEqual(len(small.rows), len(different))

    def check_order(self, small):
        order = [0]
        for state in range(len(small.rows)):
            for target in small.rows[state]:
                if target not in order:
                    order.append(target)
        self.assertEqual(order, list(range(len(small.rows))))

    def test_many_states(self):
        count = 400
        rows = [[(state + 1) % count, state] for state in range(count)]
        small = quotient(ParityAutomaton(2, 0, [1] + [0] * (count - 1), rows))
        self.assertEqual(len(small.rows), count)


class ToBuchiTest(unittest.TestCase):
    def check(self, parity, some):
        automaton = to_buchi(parity)
        self.assertLessEqual(len(automaton.rows), len(parity.rows) * (max(parity.priorities) + 2))
        self.assertEqual(automaton.letters, parity.letters)
        for lasso in some:
            self.assertIs(accepts(automaton, lasso), parity_accepts(parity, lasso))

    def test_random_automata(self):
        chooser = generator(43)
        for _ in range(120):
            self.check(random_parity(chooser, chooser.randint(1, 5), 2, chooser.randint(0, 6)), lassos(2, 2, 3))

    def test_one_priority(self):
        rows = [[1, 0, 2], [2, 2, 0], [0, 1, 1]]
        for priority in range(4):
            self.check(ParityAutomaton(3, 1, [priority] * 3, rows), lassos(3, 1, 2))

    def test_no_word(self):
        self.assertIsNone(find_word(to_buchi(ParityAutomaton(1, 0, [1], [[0]]))))
        self.assertIsNone(find_word(to_buchi(ParityAutomaton(1, 0, [2, 1], [[1], [1]]))))

    def test_great_priorities(self):
        great = 10 ** 30
        parity = ParityAutomaton(2, 0, [great, great + 1, great + 2, great + 3], [[0, 1], [2, 3], [0, 1], [2, 3]])
        self.check(parity, lassos(2, 1, 4))


if __name__ == "__main__":
    unittest.main()
