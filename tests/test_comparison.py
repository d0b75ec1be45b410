"""Point 23 and the interface of reactivesynth/comparison.py."""

import unittest

from reactivesynth.buchi import Automaton, accepts, find_word
from reactivesynth.comparison import complement, equivalent, included
from reactivesynth.determinization import determinize
from reactivesynth.errors import Mismatch
from reactivesynth.operations import intersection, trim, union
from reactivesynth.parity import to_buchi
from reactivesynth.words import make_lasso
from tests.oracles import buchi_accepts
from tests.samples import automaton_parts, generator, lassos, random_automaton, random_lasso

EVERYTHING = Automaton(2, [0], [0], [[[0], [0]]])
NOTHING = Automaton(2, [], [], [[[], []]])
SPECIAL = {
    "everything": EVERYTHING,
    "nothing": NOTHING,
    "no initial states": Automaton(2, [], [0, 1], [[[0], [1]], [[0, 1], [0]]]),
    "no accepting states": Automaton(2, [0, 1], [], [[[0], [1]], [[0, 1], [0]]]),
    "dead ends": Automaton(2, [0], [0, 1, 2], [[[0, 1], []], [[], [2]], [[], []]]),
    "a dead end after every letter": Automaton(2, [0], [0], [[[], []]]),
    "infinitely many 1": Automaton(2, [0], [1], [[[0], [1]], [[0], [1]]]),
    "finitely many 1": Automaton(2, [0], [1], [[[0, 1], [0]], [[1], []]]),
    "everything by guessing": Automaton(2, [0, 1], [1, 3], [[[0], [0, 3]], [[1], [2]], [[1], [2]], [[], [3]]]),
    "all even positions 0": Automaton(2, [0], [0], [[[1], []], [[0], [0]]]),
}


class ComplementTest(unittest.TestCase):
    def check(self, automaton, some):
        other = complement(automaton)
        self.assertEqual(other.letters, automaton.letters)
        for lasso in some:
            self.assertIs(accepts(other, lasso), not buchi_accepts(automaton, lasso))
            self.assertIs(buchi_accepts(other, lasso), not accepts(automaton, lasso))

    def test_special_automata(self):
        for name, automaton in SPECIAL.items():
            with self.subTest(name):
                self.check(automaton, lassos(2, 2, 3))

    def test_random_automata(self):
        chooser = generator(70)
        for _ in range(150):
            letters = chooser.randint(1, 3)
            automaton = random_automaton(chooser, chooser.randint(1, 5), letters)
            before = automaton_parts(automaton)
            self.check(automaton, [random_lasso(chooser, letters, 4, 4) for _ in range(30)])
            self.assertEqual(automaton_parts(automaton), before)

    def test_many_letters(self):
        chooser = generator(71)
        for _ in range(5):
            automaton = random_automaton(chooser, 3, 64)
            self.check(automaton, [random_lasso(chooser, 64, 3, 4) for _ in range(60)])

    def test_twice(self):
        chooser = generator(72)
        for _ in range(20):
            automaton = random_automaton(chooser, chooser.randint(1, 4), 2)
            again = complement(complement(automaton))
            for lasso in lassos(2, 2, 3):
                self.assertIs(accepts(again, lasso), buchi_accepts(automaton, lasso))


class InclusionTest(unittest.TestCase):
    def check_included(self, first, second, some):
        """Check the answer, and that it is no None if a word of some is in the way. Return it."""
        lasso = included(first, second)
        witnesses = [word for word in some if buchi_accepts(first, word) and not buchi_accepts(second, word)]
        if lasso is None:
            self.assertEqual(witnesses, [])
        else:
            self.assertEqual(make_lasso(*lasso), lasso)
            self.assertTrue(buchi_accepts(first, lasso))
            self.assertFalse(buchi_accepts(second, lasso))
        return lasso

    def check_equivalent(self, first, second, some):
        lasso = equivalent(first, second)
        witnesses = [word for word in some if buchi_accepts(first, word) != buchi_accepts(second, word)]
        if lasso is None:
            self.assertEqual(witnesses, [])
        else:
            self.assertEqual(make_lasso(*lasso), lasso)
            self.assertNotEqual(buchi_accepts(first, lasso), buchi_accepts(second, lasso))
        return lasso

    def test_special_automata(self):
        some = lassos(2, 1, 3)
        for name, first in SPECIAL.items():
            for other, second in SPECIAL.items():
                with self.subTest((name, other)):
                    lasso = self.check_included(first, second, some)
                    back = self.check_included(second, first, some)
                    both = self.check_equivalent(first, second, some)
                    self.assertEqual(both is None, lasso is None and back is None)

    def test_everything_and_nothing(self):
        self.assertIsNone(included(NOTHING, EVERYTHING))
        self.assertIsNotNone(included(EVERYTHING, NOTHING))
        self.assertIsNone(equivalent(EVERYTHING, SPECIAL["everything by guessing"]))
        for name in ("no initial states", "no accepting states", "a dead end after every letter"):
            self.assertIsNone(equivalent(SPECIAL[name], NOTHING))
            self.assertIsNotNone(equivalent(SPECIAL[name], EVERYTHING))

    def test_one_letter_apart(self):
        first = SPECIAL["infinitely many 1"]
        # The same, but for the word of 1 alone.
        second = Automaton(2, [0], [2], [[[1], [0]], [[1], [2]], [[1], [2]]])
        self.assertIsNone(included(second, first))
        self.assertEqual(included(first, second), ((), (1,)))
        self.assertEqual(equivalent(first, second), ((), (1,)))
        self.assertEqual(equivalent(second, first), ((), (1,)))

    def test_one_part_of_the_other(self):
        chooser = generator(73)
        for _ in range(60):
            letters = chooser.randint(1, 3)
            first = random_automaton(chooser, chooser.randint(1, 4), letters)
            second = random_automaton(chooser, chooser.randint(1, 3), letters)
            some = [random_lasso(chooser, letters, 3, 3) for _ in range(12)]
            self.assertIsNone(included(first, union(first, second)))
            self.assertIsNone(included(second, union(first, second)))
            self.assertIsNone(included(intersection(first, second), first))
            self.check_included(union(first, second), first, some)
            self.check_included(first, intersection(first, second), some)
            self.check_equivalent(union(first, second), second, some)

    def test_equal_automata_in_different_forms(self):
        chooser = generator(74)
        for _ in range(40):
            letters = chooser.randint(1, 3)
            automaton = random_automaton(chooser, chooser.randint(1, 4), letters)
            for other in (automaton, trim(automaton), union(automaton, automaton), intersection(automaton, automaton),
                          to_buchi(determinize(automaton)), complement(complement(automaton))):
                self.assertIsNone(equivalent(automaton, other))
                self.assertIsNone(equivalent(other, automaton))
                self.assertIsNone(included(automaton, other))
                self.assertIsNone(included(other, automaton))

    def test_unlike_automata(self):
        chooser = generator(75)
        for _ in range(150):
            letters = chooser.randint(1, 3)
            first = random_automaton(chooser, chooser.randint(1, 4), letters)
            second = random_automaton(chooser, chooser.randint(1, 4), letters)
            some = [random_lasso(chooser, letters, 3, 3) for _ in range(20)]
            self.check_included(first, second, some)
            self.check_equivalent(first, second, some)

    def test_an_automaton_and_its_complement(self):
        chooser = generator(76)
        for _ in range(40):
            automaton = random_automaton(chooser, chooser.randint(1, 4), 2)
            other = complement(automaton)
            self.assertIsNone(find_word(intersection(automaton, other)))
            self.assertIsNone(equivalent(union(automaton, other), EVERYTHING))
            self.assertIsNotNone(equivalent(automaton, other))


class MismatchTest(unittest.TestCase):
    def test_unlike_numbers_of_letters(self):
        for other in (Automaton(1, [0], [0], [[[0]]]), Automaton(3, [], [], [[[], [], []]]),
                      Automaton(4, [0], [0], [[[0]] * 4])):
            for function in (included, equivalent):
                for pair in ((EVERYTHING, other), (other, EVERYTHING), (NOTHING, other), (other, NOTHING)):
                    with self.assertRaises(Mismatch):
                        function(*pair)


if __name__ == "__main__":
    unittest.main()
