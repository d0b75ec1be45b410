"""Points 10, 11 and 19 and the interface of reactivesynth/translation.py."""

import unittest

from reactivesynth.buchi import Automaton, accepts, find_word
from reactivesynth.comparison import equivalent
from reactivesynth.formulas import count_operators, depth, temporal_count
from reactivesynth.parsing import parse_property
from reactivesynth.translation import translate
from reactivesynth.truth import holds
from tests.oracles import buchi_accepts, truth_at
from tests.samples import BINARY, TEMPORAL, UNARY, automaton_parts, generator, lassos, random_formula, random_lasso

A = ("signal", "a")
B = ("signal", "b")
EVERYTHING = Automaton(4, [0], [0], [[[0]] * 4])


def applied(kind, first, second):
    """Return a formula with an operator over one formula or over two."""
    return (kind, first) if kind in UNARY else (kind, first, second)


class TranslationCase(unittest.TestCase):
    def check(self, prop, names, some):
        automaton = translate(prop, names)
        self.assertEqual(automaton.letters, 1 << len(names))
        for lasso in some:
            self.assertIs(accepts(automaton, lasso), holds(prop, names, lasso), (prop, lasso))
        return automaton


class FormulaTest(TranslationCase):
    def test_constants_and_signals(self):
        for formula in (("true",), ("false",), A, B, ("not", A)):
            self.check(formula, ["a", "b"], lassos(4, 1, 2))

    def test_each_operator_alone(self):
        some = lassos(4, 1, 2) + lassos(4, 2, 1)
        for kind in UNARY + BINARY:
            formula = applied(kind, A, B)
            automaton = self.check(formula, ["a", "b"], some)
            for lasso in some:
                self.assertIs(buchi_accepts(automaton, lasso), truth_at(formula, ["a", "b"], lasso, 0))

    def test_each_operator_within_each_other_one(self):
        chooser = generator(80)
        for outer in UNARY + BINARY:
            for inner in TEMPORAL:
                some = [random_lasso(chooser, 4, 3, 3) for _ in range(12)]
                self.check(applied(outer, applied(inner, A, B), B), ["a", "b"], some)
                if outer in BINARY:
                    self.check(applied(outer, A, applied(inner, B, A)), ["a", "b"], some)

    def test_the_past_below_the_future_and_the_other_way_round(self):
        chooser = generator(81)
        for text in ("G(b -> O a)", "F(a & H b)", "G F(a S b)", "F G(a T b)", "G(a -> Y b)", "G(a -> Z b)",
                     "X X Y Y a", "X X Y Y Y a", "X Z Z a", "Y X a", "Z X a", "O(X a)", "H(F b)", "F(O(G a))",
                     "G((Y a) U b)", "G(a | (Z b) R a)", "X X(b S X a)", "F(H(a -> X b))", "G(O(a & F b) -> F a)",
                     "X X X(H(O a) & F b)", "F(a & Y(b S (G a)))", "G(a <-> Y(F b))", "X G(Y a <-> b)",
                     "G F(Y(Z(a S b)))", "F(O(a & G b))", "G(H a | O(G b))", "F(a & H(b -> F a))"):
            prop = parse_property(text, ["a", "b"])
            self.check(prop, ["a", "b"], [random_lasso(chooser, 4, 5, 4) for _ in range(60)])

    def test_random_formulas(self):
        chooser = generator(82)
        for _ in range(400):
            names = ["a", "b", "c"][:chooser.randint(1, 3)]
            formula = random_formula(chooser, names, chooser.randint(1, 7))
            letters = 1 << len(names)
            self.check(formula, names, [random_lasso(chooser, letters, 4, 4) for _ in range(12)])

    def test_no_signals(self):
        chooser = generator(83)
        for text, expected in (("true", True), ("false", False), ("G true", True), ("F false", False),
                               ("X Y true", True), ("Y true", False), ("Z false", True), ("X Z false", False),
                               ("G F Y true", True), ("true U Y X Z false", False), ("G O Z false", True)):
            automaton = self.check(parse_property(text, []), [], [((), (0,)), ((0, 0), (0, 0, 0))])
            self.assertEqual(automaton.letters, 1)
            self.assertEqual(find_word(automaton), ((), (0,)) if expected else None)
        for _ in range(60):
            self.check(random_formula(chooser, [], chooser.randint(1, 7)), [], [((), (0,))])

    def test_signals_that_the_formula_does_not_name(self):
        self.check(("until", B, ("signal", "d")), ["c", "d", "a", "b"], lassos(16, 1, 1))

    def test_letters_by_the_place_in_the_list(self):
        automaton = translate(B, ["a", "b"])
        self.assertEqual([accepts(automaton, ((letter,), (0,))) for letter in range(4)], [False, False, True, True])
        automaton = translate(B, ["b", "a"])
        self.assertEqual([accepts(automaton, ((letter,), (0,))) for letter in range(4)], [False, True, False, True])

    def test_no_promise_is_put_off_for_ever(self):
        automaton = translate(parse_property("G F a & G F b & G F(a & Y b)", ["a", "b"]), ["a", "b"])
        self.assertIs(accepts(automaton, ((), (1, 2))), True)
        for loop in ((0,), (1,), (2,), (2, 0, 1)):
            self.assertIs(accepts(automaton, ((3, 2, 1), loop)), False)

    def test_equal_formulas(self):
        for first, second in (("F a", "true U a"), ("a W b", "(a U b) | G a"), ("a R b", "!(!a U !b)"),
                              ("F O a", "F a"), ("G(a -> O b)", "!a W b"), ("X Y a", "a"), ("X X(a S b)",
                              "X X b | X X a & X b | X X a & X a & b"), ("G F(a & O b)", "G F a & F b"),
                              ("G(O a -> b)", "G(a -> G b)"), ("a & H b", "a & b"), ("F(b & Z H a)", "b | a U (a & X b)")):
            one = translate(parse_property(first, ["a", "b"]), ["a", "b"])
            other = translate(parse_property(second, ["a", "b"]), ["a", "b"])
            self.assertIsNone(equivalent(one, other), (first, second))

    def test_arguments_stay_and_results_are_equal(self):
        names = ["b", "a"]
        prop = ("exists", ("h",), ("until", A, ("iff", ("signal", "h"), ("next", B))))
        first = translate(prop, names)
        self.assertEqual(names, ["b", "a"])
        self.assertEqual(automaton_parts(translate(prop, ("b", "a"))), automaton_parts(first))


class QuantifierTest(TranslationCase):
    def test_every_other_turn(self):
        prop = parse_property("exists h: h & G(h <-> !X h) & G(h -> a)", ["a"])
        automaton = self.check(prop, ["a"], lassos(2, 3, 4))
        self.assertIs(accepts(automaton, ((), (1, 0))), True)
        self.assertIs(accepts(automaton, ((0,), (1, 0))), False)

    def test_forall(self):
        prop = parse_property("forall h: F(a <-> X h) | G h", ["a"])
        self.check(prop, ["a"], lassos(2, 2, 3))
        self.assertIsNotNone(find_word(translate(parse_property("forall h: h | !h", ["a"]), ["a"])))
        self.assertIsNone(find_word(translate(parse_property("forall h: G h", ["a"]), ["a"])))

    def test_hidden_signals_that_are_not_used(self):
        for quantifier in ("exists", "forall"):
            automaton = translate((quantifier, ("h", "k", "l"), ("always", ("eventually", A))), ["a", "b"])
            self.assertIsNone(equivalent(automaton, translate(("always", ("eventually", A)), ["a", "b"])))

    def test_no_signals(self):
        for text, expected in (("exists h: G(h <-> !X h)", True), ("exists h: h & G h & F !h", False),
                               ("forall h: F h | G !h", True), ("forall h: F h", False),
                               ("exists h, k: G F(h & !k) & G F(k & !h) & G(h -> X k)", True),
                               ("forall h, k, l: F h | F k | F l", False)):
            automaton = self.check(parse_property(text, []), [], [((), (0,))])
            self.assertEqual(find_word(automaton), ((), (0,)) if expected else None)

    def test_random_properties(self):
        chooser = generator(84)
        for hidden, rounds, size in ((("h",), 120, 6), (("h", "k"), 80, 6), (("h", "k", "l"), 40, 5)):
            for _ in range(rounds):
                names = ["a", "b"][:chooser.randint(0, 2)]
                formula = random_formula(chooser, names + list(hidden) * 2, chooser.randint(1, size))
                if temporal_count(formula) <= 4:
                    prop = (chooser.choice(("exists", "forall")), hidden, formula)
                    self.check(prop, names, [random_lasso(chooser, 1 << len(names), 3, 3) for _ in range(8)])

    def test_quantified_properties_with_structure(self):
        chooser = generator(85)
        for text in ("exists h: h & G(h -> X !h) & G(!h -> X h | X a)", "exists h, k: G(a -> h) & G(h -> X k) & G(k -> b)",
                     "forall h: G(h -> a) -> G(h -> X b)", "exists h: G(a <-> Y h) & G(b <-> O h)",
                     "forall h: F(h & a) | F(!h & X b)", "exists h: G F h & G(h -> a & Y b)",
                     "forall h, k: G(h <-> a S k) -> G(k -> h)", "forall h: G(h -> F a) & G F h -> G F a",
                     "exists h, k, l: G(h <-> X k) & G(k <-> X l) & G(l <-> a) & G F(h & b)"):
            prop = parse_property(text, ["a", "b"])
            self.check(prop, ["a", "b"], [random_lasso(chooser, 4, 4, 4) for _ in range(30)])


class BoundTest(TranslationCase):
    """Properties with as many operators, signals and levels as point 9 allows, or nearly as many."""

    def test_many_operators(self):
        names = ["a", "b", "c", "d", "e", "f"]
        chooser = generator(86)
        for text in ("G F a & G F b & G F c & G F d", "(G F a & G F b -> G F c & G F d)", "X X X X X X X X a",
                     "a U (b U (c U (d U (e U (f U (a U (b U c)))))))", "G(a -> F b) & G(c -> F d) & G(e -> F f) & F G a",
                     "((((((((a S b) S c) S d) S e) S f) S a) S b) S c)", "H O H O F G F G a", "F H F O F(a S X b)",
                     "F(a & Y(b & Y(c & Y(d & Y(e & Y(f & O(a & H b)))))))", "a W (b W (c W (d W (e W f))))",
                     "(F a <-> G b) <-> ((F c <-> G d) <-> (O e <-> X(a S f)))",
                     "G(a <-> X b) & G(c <-> X d) & G(e <-> Y f) & G(b <-> F c)",
                     "(a W b) W ((c W d) W ((e W f) W a))", "G(a U (b R c)) | F(d S (e T f)) & (G a | F b)"):
            prop = parse_property(text, names)
            with self.subTest(text):
                self.check(prop, names, [random_lasso(chooser, 64, 4, 4) for _ in range(15)])

    def test_random_formulas_near_the_bounds(self):
        names = ["a", "b", "c", "d", "e", "f"]
        chooser = generator(87)
        checked = 0
        while checked < 60:
            formula = random_formula(chooser, names, chooser.randint(10, 24))
            if 6 <= temporal_count(formula) <= 8 and count_operators(formula, ("iff", "weak_until")) <= 6:
                checked += 1
                self.check(formula, names, [random_lasso(chooser, 64, 3, 3) for _ in range(10)])

    def test_depth(self):
        formula = ("until", A, ("since", B, A))
        while depth(formula) < 100:
            formula = ("not", ("and", formula, B)) if depth(formula) < 99 else ("not", formula)
        self.assertEqual(depth(formula), 100)
        self.check(formula, ["a", "b"], lassos(4, 1, 2))

    def test_many_hidden_signals(self):
        names = ["a", "b"]
        chooser = generator(88)
        for text in ("exists h, k, l: G(h <-> X k) & G(k <-> X l) & G(l <-> X h) & G(h -> a | F b)",
                     "exists h, k, l: G F(h & a) & G F(k & b) & G F(l & !a) & G !(h & k & l)",
                     "forall h, k: G F(h & a) -> G F(k & b) | G F(h & k)",
                     "forall h: (G(h -> F a) & G(a -> F h)) -> (G F h -> G F(a & b))"):
            prop = parse_property(text, names)
            with self.subTest(text):
                self.check(prop, names, [random_lasso(chooser, 4, 3, 3) for _ in range(10)])


if __name__ == "__main__":
    unittest.main()
