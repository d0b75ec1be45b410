"""Points 5 to 7 and the interface of reactivesynth/words.py."""

import math
import unittest

from reactivesynth.errors import EmptyLoop, InvalidLetter, InvalidTurn
from reactivesynth.words import combine, first_difference, letter_at, make_lasso, relabel, suffix
from tests.samples import generator, lassos, random_lasso, unrolled


def slow_normal_form(head, loop):
    """Try all heads, the shortest first, and for each all loops."""
    whole = unrolled((head, loop), 3 * (len(head) + len(loop)))
    for kept in range(len(head) + 1):
        for size in range(1, len(loop) + 1):
            candidate = (tuple(whole[:kept]), tuple(whole[kept:kept + size]))
            if unrolled(candidate, len(whole)) == whole:
                return candidate
    raise AssertionError("the lasso itself is a candidate")


class MakeLassoTest(unittest.TestCase):
    def test_example(self):
        self.assertEqual(make_lasso([0, 1], [0, 1, 0, 1]), ((), (0, 1)))

    def test_forms(self):
        for head, loop, normal in (
                ([], [7], ((), (7,))),
                ([], [7, 7, 7], ((), (7,))),
                ([7, 7], [7, 7], ((), (7,))),
                ([1], [0, 1], ((), (1, 0))),
                ([0], [0, 1], ((0,), (0, 1))),
                ([2, 0, 1], [1, 0, 1, 1, 0, 1], ((2,), (0, 1, 1))),
                ([3, 3, 1, 2], [3, 1, 2, 3, 1, 2], ((3,), (3, 1, 2))),
                ([], [0, 1, 0], ((), (0, 1, 0))),
                ([], [0, 0, 1, 0, 0, 1, 0, 0, 1], ((), (0, 0, 1))),
                ([], [0, 1, 0, 1, 0], ((), (0, 1, 0, 1, 0))),
                ([5], [10 ** 40], ((5,), (10 ** 40,))),
                ([10 ** 40, 4], [10 ** 40, 4], ((), (10 ** 40, 4)))):
            with self.subTest(head=head, loop=loop):
                self.assertEqual(make_lasso(head, loop), normal)

    def test_all_short_lassos(self):
        for head, loop in lassos(2, 4, 5) + lassos(3, 2, 4):
            self.assertEqual(make_lasso(list(head), list(loop)), slow_normal_form(head, loop))

    def test_one_form_for_each_word(self):
        for head, loop in lassos(2, 2, 4):
            for more in range(3):
                longer = unrolled((head, loop), len(head) + more)
                cut = more % len(loop)
                again = make_lasso(longer, (loop[cut:] + loop[:cut]) * 2)
                self.assertEqual(again, make_lasso(list(head), list(loop)))

    def test_long_words(self):
        self.assertEqual(make_lasso([1] + [0] * 30000, [0] * 30000), ((1,), (0,)))
        self.assertEqual(make_lasso([], ([0] * 999 + [1]) * 30), ((), (0,) * 999 + (1,)))

    def test_empty_loop(self):
        for head in ([], [1], [-1]):
            with self.subTest(head=head):
                with self.assertRaises(EmptyLoop):
                    make_lasso(head, [])

    def test_negative_letters(self):
        for head, loop in (([-1, 0, 0], [0]), ([0, -1, 0], [0]), ([0, 0, -1], [0]), ([], [-1]), ([], [-5, 0, 0]),
                           ([1], [0, -1, 0]), ([1], [0, 0, -1]), ([-1], [-1])):
            with self.subTest(head=head, loop=loop):
                with self.assertRaises(InvalidLetter):
                    make_lasso(head, loop)

    def test_arguments_stay_and_results_are_tuples(self):
        head, loop = [0, 1], [0, 1, 0, 1]
        lasso = make_lasso(head, loop)
        self.assertEqual((head, loop), ([0, 1], [0, 1, 0, 1]))
        head.append(5)
        loop.append(5)
        self.assertEqual(lasso, ((), (0, 1)))
        for value in (lasso, lasso[0], lasso[1]):
            self.assertIs(type(value), tuple)


class LetterAtTest(unittest.TestCase):
    def test_every_turn(self):
        for lasso in (((), (4,)), ((3, 1), (4, 1, 5)), ((9,), (2, 6, 2, 6))):
            for turn, letter in enumerate(unrolled(lasso, 20)):
                self.assertEqual(letter_at(lasso, turn), letter)

    def test_turns_of_any_size(self):
        self.assertEqual(letter_at(((8,), (0, 1, 2)), 10 ** 50), (10 ** 50 - 1) % 3)
        self.assertEqual(letter_at(((), (10 ** 30, 7)), 10 ** 50 + 1), 7)

    def test_negative_turn(self):
        for turn in (-1, -2, -(10 ** 30)):
            with self.assertRaises(InvalidTurn):
                letter_at(((1, 2), (0,)), turn)


class SuffixTest(unittest.TestCase):
    def test_example(self):
        self.assertEqual(suffix(make_lasso([2], [0, 1, 1]), 3), ((), (1, 0, 1)))

    def test_every_suffix(self):
        for lasso in lassos(2, 3, 3) + [((5, 6, 7), (8, 9, 8, 9))]:
            for turns in range(9):
                rest = unrolled(lasso, 40)[turns:]
                found = suffix(lasso, turns)
                self.assertEqual(unrolled(found, len(rest)), rest)
                self.assertEqual(found, make_lasso(*found))

    def test_turns_of_any_size(self):
        self.assertEqual(suffix(((8,), (0, 1, 2)), 10 ** 50 + 1), ((), (1, 2, 0)))
        self.assertEqual(suffix(((8,), (0, 1, 2)), 3 * 10 ** 50), ((), (2, 0, 1)))

    def test_none_is_taken_away(self):
        self.assertEqual(suffix(((1, 0), (1, 0, 1, 0)), 0), ((), (1, 0)))

    def test_negative_turns(self):
        for turns in (-1, -(10 ** 30)):
            with self.assertRaises(InvalidTurn):
                suffix(((1, 2), (0,)), turns)


class RelabelTest(unittest.TestCase):
    def test_letters(self):
        self.assertEqual(relabel(((2, 0), (1, 2)), [5, 6, 10 ** 30]), ((10 ** 30, 5), (6, 10 ** 30)))

    def test_result_is_in_normal_form(self):
        self.assertEqual(relabel(((2, 0), (1, 2)), [4, 4, 4]), ((), (4,)))
        self.assertEqual(relabel(((2, 0), (1, 2)), [0, 1, 1]), ((1, 0), (1,)))
        self.assertEqual(relabel(((), (0, 1, 2, 3)), [0, 1, 0, 1]), ((), (0, 1)))

    def test_table_with_too_few_entries(self):
        for lasso, table in ((((2,), (0,)), [0, 1]), (((0, 2, 0), (0,)), [0, 1]), (((0,), (0, 2)), [0, 1]),
                             (((), (2, 0)), [5, 5]), (((), (0,)), []), (((10 ** 30,), (0,)), [0, 1])):
            with self.subTest(lasso=lasso, table=table):
                with self.assertRaises(InvalidLetter):
                    relabel(lasso, table)

    def test_table_stays(self):
        table = [3, 2]
        found = relabel(((0,), (1, 0)), table)
        self.assertEqual(table, [3, 2])
        table[0] = 9
        self.assertEqual(found, ((), (3, 2)))
        self.assertIs(type(found[1]), tuple)


class CombineTest(unittest.TestCase):
    def test_every_letter(self):
        chooser = generator(1)
        for _ in range(300):
            first, second = random_lasso(chooser, 3, 4, 4), random_lasso(chooser, 2, 4, 6)
            size = chooser.choice((1, 2, 3, 10 ** 20))
            found = combine(first, second, size)
            turns = 10 + 2 * len(first[1]) * len(second[1])
            expected = [one + size * two for one, two in zip(unrolled(first, turns), unrolled(second, turns))]
            self.assertEqual(unrolled(found, turns), expected)
            self.assertEqual(found, make_lasso(*found))

    def test_examples(self):
        self.assertEqual(combine(((1,), (0,)), ((), (1, 0)), 2), ((3,), (0, 2)))
        self.assertEqual(combine(((), (0, 1)), ((), (1, 0)), 1), ((), (1,)))
        self.assertEqual(combine(((), (0, 1, 2)), ((), (0, 1)), 3), ((), (0, 4, 2, 3, 1, 5)))
        self.assertEqual(combine(((), (1,)), ((7, 7, 7), (7,)), 1), ((), (8,)))

    def test_loops_that_are_repetitions(self):
        self.assertEqual(combine(((), (0, 1) * 5000), ((), (1,) * 9999), 2), ((), (2, 3)))


class FirstDifferenceTest(unittest.TestCase):
    def test_example(self):
        self.assertEqual(first_difference(((0,), (1, 0)), ((), (0, 1, 0))), 3)

    def test_one_word_in_two_forms(self):
        for first, second in ((((), (0,)), ((0, 0), (0, 0, 0))), (((0, 1), (0, 1, 0, 1)), ((), (0, 1))),
                              (((2, 0, 1), (1, 0, 1)), ((2,), (0, 1, 1))), (((), (4, 4, 4)), ((), (4, 4)))):
            self.assertIsNone(first_difference(first, second))
            self.assertIsNone(first_difference(second, first))

    def test_all_short_lassos(self):
        chooser = generator(2)
        some = lassos(2, 2, 4)
        for first in some:
            for second in chooser.sample(some, 40):
                turns = 40
                pairs = list(zip(unrolled(first, turns), unrolled(second, turns)))
                expected = next((turn for turn, (one, two) in enumerate(pairs) if one != two), None)
                self.assertEqual(first_difference(first, second), expected)

    def test_words_that_differ_as_late_as_they_can(self):
        # Two words whose loops have p and q letters, p and q without a common
        # divisor, can have the same letters in p + q - 2 turns of the loops.
        for first, second, turn in (
                (((), (0, 1, 0)), ((), (0, 1, 0, 0, 1)), 6),
                (((), (0, 1)), ((), (0, 1, 0)), 3),
                (((7,), (0, 1, 0)), ((7,), (0, 1, 0, 0, 1)), 7),
                (((7, 0, 1), (0, 0, 1)), ((7,), (0, 1, 0, 0, 1)), 7),
                (((), (0,) * 8 + (1,)), ((), (0,) * 8 + (1, 0)), 17)):
            with self.subTest(first=first, second=second):
                self.assertEqual(first_difference(first, second), turn)
                self.assertEqual(first_difference(second, first), turn)
                self.assertEqual(math.gcd(len(first[1]), len(second[1])), 1)

    def test_difference_in_the_head(self):
        for first, second, turn in ((((0, 5), (0,)), ((0, 0), (0,)), 1), (((5,), (0,)), ((), (0,)), 0),
                                    (((), (0,)), ((0, 0, 0, 0, 0, 1), (0,)), 5),
                                    (((), (1, 0)), ((1, 0, 1, 0, 1, 0, 1, 0, 2), (1, 0)), 8)):
            self.assertEqual(first_difference(first, second), turn)
            self.assertEqual(first_difference(second, first), turn)


if __name__ == "__main__":
    unittest.main()
