"""Points 9, 11 and 19 and the interface of reactivesynth/description.py."""

import unittest

from reactivesynth.buchi import Automaton
from reactivesynth.comparison import equivalent
from reactivesynth.description import describe
from reactivesynth.errors import Mismatch, TooLarge
from reactivesynth.formulas import count_operators, depth, signal_names, temporal_count
from reactivesynth.parsing import parse_property
from reactivesynth.printing import format_property
from reactivesynth.translation import translate
from reactivesynth.truth import holds
from tests.oracles import buchi_accepts
from tests.samples import automaton_parts, generator, lassos, random_automaton, random_lasso


def all_to_all(states, letters, initial, accepting):
    """Return an automaton with every possible successor."""
    return Automaton(letters, initial, accepting, [[list(range(states))] * letters for _ in range(states)])


class DescribeTest(unittest.TestCase):
    def check(self, automaton, names, some):
        prop = describe(automaton, names)
        self.check_form(prop, names)
        for lasso in some:
            self.assertIs(holds(prop, names, lasso), buchi_accepts(automaton, lasso), (prop, lasso))
        other = translate(prop, names)
        self.assertIsNone(equivalent(other, automaton))

    def check_form(self, prop, names):
        quantifier, hidden, formula = prop
        self.assertEqual(quantifier, "exists")
        self.assertIs(type(hidden), tuple)
        self.assertIn(len(hidden), (1, 2))
        self.assertEqual(len(set(hidden) | set(names)), len(hidden) + len(names))
        self.assertLessEqual(set(signal_names(formula)), set(hidden) | set(names))
        self.assertLessEqual(temporal_count(formula), 8)
        self.assertLessEqual(count_operators(formula, ("iff", "weak_until")), 6)
        self.assertLessEqual(depth(formula), 100)
        for name in hidden:
            self.assertRegex(name, r"\A[a-z][a-z0-9]*\Z")
            self.assertNotIn(name, ("true", "false", "exists", "forall"))

    def test_special_automata(self):
        for name, automaton in {
                "nothing": Automaton(2, [], [], [[[], []]]),
                "everything": all_to_all(1, 2, [0], [0]),
                "one state that accepts nothing": all_to_all(1, 2, [0], []),
                "no initial states": all_to_all(3, 2, [], [0, 1]),
                "no accepting states": all_to_all(4, 2, [0, 2], []),
                "all states": all_to_all(4, 2, [0, 1, 2, 3], [0, 1, 2, 3]),
                "dead ends": Automaton(2, [0], [0, 1, 2, 3], [[[0, 1], []], [[], [2]], [[3], []], [[], []]]),
                "dead ends alone": Automaton(2, [0, 1], [0, 1], [[[], []], [[], []]]),
                "infinitely many 1": Automaton(2, [0], [1], [[[0], [1]], [[0], [1]]]),
                "finitely many 1": Automaton(2, [0], [1], [[[0, 1], [0]], [[1], []]]),
                "three in a circle": Automaton(2, [1], [2], [[[], [1]], [[2], [1]], [[0, 2], []]]),
        }.items():
            with self.subTest(name):
                self.check(automaton, ["a"], lassos(2, 2, 3))

    def test_random_automata(self):
        chooser = generator(90)
        for states in (1, 2, 3, 4):
            for _ in range(30):
                names = ["a", "b"][:chooser.randint(0, 2)]
                automaton = random_automaton(chooser, states, 1 << len(names))
                some = [random_lasso(chooser, 1 << len(names), 3, 3) for _ in range(15)]
                self.check(automaton, names, some)

    def test_dense_automata(self):
        chooser = generator(91)
        for _ in range(10):
            rows = [[[state for state in range(4) if chooser.random() < 0.6] for _ in range(4)] for _ in range(4)]
            automaton = Automaton(4, [0, 3], [1], rows)
            self.check(automaton, ["a", "b"], [random_lasso(chooser, 4, 3, 3) for _ in range(15)])

    def test_six_signals(self):
        names = ["a", "h1", "c", "h0", "h3", "h2"]
        chooser = generator(92)
        for states in (1, 2, 3, 4):
            rows = [[[state for state in range(states) if chooser.random() < 0.5] for _ in range(64)]
                    for _ in range(states)]
            automaton = Automaton(64, [0], [states - 1], rows)
            prop = describe(automaton, names)
            self.check_form(prop, names)
            for _ in range(20):
                lasso = random_lasso(chooser, 64, 3, 3)
                self.assertIs(holds(prop, names, lasso), buchi_accepts(automaton, lasso))

    def test_no_signals(self):
        chooser = generator(93)
        for states in (1, 2, 3, 4):
            for _ in range(10):
                self.check(random_automaton(chooser, states, 1), [], [((), (0,)), ((0,), (0, 0))])

    def test_hidden_names_differ_from_the_signals(self):
        automaton = all_to_all(4, 4, [0], [3])
        usual = describe(automaton, ["a", "b"])[1]
        self.assertEqual(len(usual), 2)
        for names in (list(usual), [usual[1], "h"], ["h", usual[0]], ["x", usual[1] + "0"]):
            self.check_form(describe(automaton, names), names)
        self.check_form(describe(all_to_all(4, 64, [0], [3]), list(usual) + ["h2", "h3", "h4", "h5"]),
                        list(usual) + ["h2", "h3", "h4", "h5"])

    def test_the_property_can_be_printed(self):
        automaton = Automaton(2, [0], [1], [[[0, 1], [0]], [[1], []]])
        prop = describe(automaton, ["a"])
        self.assertLessEqual(len(prop[1]), 2)
        text = format_property(prop)
        if len(text) <= 200 and text.count("(") <= 20:
            self.assertEqual(parse_property(text, ["a"]), prop)

    def test_arguments_stay_and_results_are_equal(self):
        automaton = Automaton(2, [0], [1], [[[0, 1], [0]], [[1], []]])
        before = automaton_parts(automaton)
        names = ["a"]
        first = describe(automaton, names)
        self.assertEqual((automaton_parts(automaton), names), (before, ["a"]))
        self.assertEqual(describe(automaton, ("a",)), first)


class WrongArgumentTest(unittest.TestCase):
    def test_letters_that_do_not_fit(self):
        for letters, names in ((1, ["a"]), (2, []), (3, ["a"]), (2, ["a", "b"]), (4, ["a"]), (5, ["a", "b"])):
            with self.assertRaises(Mismatch):
                describe(all_to_all(2, letters, [0], [0]), names)

    def test_too_many_states(self):
        for states in (5, 6, 20):
            with self.assertRaises(TooLarge):
                describe(all_to_all(states, 2, [0], [0]), ["a"])
            # States that no run needs count, too.
            with self.assertRaises(TooLarge):
                describe(Automaton(1, [], [], [[[]]] * states), [])

    def test_mismatch_comes_first(self):
        for letters, names in ((1, ["a"]), (4, ["a"]), (3, ["a", "b"])):
            with self.assertRaises(Mismatch):
                describe(all_to_all(5, letters, [0], [0]), names)

    def test_four_states_are_not_too_many(self):
        self.assertEqual(describe(all_to_all(4, 2, [0], [0]), ["a"])[0], "exists")


if __name__ == "__main__":
    unittest.main()
