"""Automata that are made smaller accept the same words as before (reactivesynth/reduction.py)."""

import unittest

from reactivesynth.buchi import Automaton, accepts
from reactivesynth.operations import union
from reactivesynth.parsing import parse_property
from reactivesynth.reduction import reduced
from reactivesynth.translation import translate
from tests.samples import automaton_parts, generator, lassos, random_automaton, random_lasso


class ReducedTest(unittest.TestCase):
    def test_random_automata(self):
        chooser = generator(150)
        for _ in range(200):
            letters = chooser.randint(1, 3)
            automaton = random_automaton(chooser, chooser.randint(1, 8), letters)
            before = automaton_parts(automaton)
            small = reduced(automaton)
            self.assertEqual(automaton_parts(automaton), before)
            self.assertLessEqual(len(small.rows), len(automaton.rows))
            for _ in range(20):
                lasso = random_lasso(chooser, letters, 3, 4)
                self.assertIs(accepts(small, lasso), accepts(automaton, lasso))

    def test_the_same_automaton_twice(self):
        often = Automaton(2, [0], [1], [[[0], [1]], [[0], [1]]])
        for automaton in (often, union(often, often), union(union(often, often), often)):
            self.assertLessEqual(len(reduced(automaton).rows), 2)

    def test_everything_and_nothing(self):
        everything = Automaton(2, [0, 2], [0, 1, 2], [[[1], [2]], [[0, 1], [2]], [[1], [0]]])
        self.assertEqual(automaton_parts(reduced(everything)), (2, (0,), (0,), (((0,), (0,)),)))
        nothing = Automaton(2, [0, 2], [1], [[[0], [2]], [[], []], [[0, 1], [2]]])
        self.assertEqual(automaton_parts(reduced(nothing)), (2, (), (), (((), ()),)))

    def test_an_automaton_with_many_moves(self):
        count = 1600
        rows = [[[(state + 1) % count], [state]] for state in range(count)]
        small = reduced(Automaton(2, [0], [0], rows))
        for lasso, expected in ((((), (0,)), True), (((), (1,)), True), (((0,), (1,)), False), (((0, 1), (1, 0)), True)):
            self.assertIs(accepts(small, lasso), expected)


class SizeTest(unittest.TestCase):
    def test_usual_properties(self):
        for text, most in (("true", 1), ("false", 1), ("a", 2), ("G a", 1), ("F a", 3), ("G F a", 2), ("F G a", 3),
                           ("a U b", 3), ("G(a -> F b)", 3), ("G F a & G F b", 4), ("G F a -> G F b", 6), ("a S b", 2),
                           ("G(a -> O b)", 2), ("X X X a", 5), ("F(a & Y b)", 4),
                           ("exists h: h & G(h <-> !X h) & G(h -> a)", 2), ("forall h: F(h & a) | F(!h & X b)", 3)):
            automaton = translate(parse_property(text, ["a", "b"]), ["a", "b"])
            self.assertLessEqual(len(automaton.rows), most, text)

    def test_words_of_the_smallest(self):
        automaton = translate(parse_property("G F a", ["a"]), ["a"])
        for lasso in lassos(2, 2, 3):
            self.assertIs(accepts(automaton, lasso), 1 in lasso[1])


if __name__ == "__main__":
    unittest.main()
