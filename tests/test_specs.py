"""Points 8, 33 to 35 and the interface of reactivesynth/specs.py."""

import unittest

from reactivesynth.buchi import accepts, find_word
from reactivesynth.errors import InvalidLetter, InvalidSpec
from reactivesynth.parsing import parse_property
from reactivesynth.specs import Spec, dual, satisfies, spec_automaton
from reactivesynth.words import make_lasso, relabel
from tests.oracles import buchi_accepts, truth_at
from tests.samples import generator, lassos, random_formula, random_lasso, random_spec, spec_parts

LEADS = (-3, -2, -1, 0, 1, 2)
R = ("signal", "r")
G = ("signal", "g")


def made(inputs, outputs, assumptions, guarantees, lead=0, negated=False):
    """Return the specification with these properties, which are given as texts."""
    names = inputs + outputs
    return Spec(inputs, outputs, lead, [parse_property(text, names) for text in assumptions],
                [parse_property(text, names) for text in guarantees], negated=negated)


class SpecTest(unittest.TestCase):
    def test_attributes(self):
        spec = Spec(["r", "s"], ["g"], -2, [R], [G, ("always", G)], negated=True)
        self.assertEqual(spec_parts(spec), (("r", "s"), ("g",), -2, (R,), (G, ("always", G)), True))
        for value in (spec.inputs, spec.outputs, spec.assumptions, spec.guarantees, spec.signals):
            self.assertIs(type(value), tuple)
        self.assertIs(spec.negated, True)
        self.assertIs(Spec([], [], 0, [], []).negated, False)
        self.assertIs(Spec([], [], 0, [], [], negated=False).negated, False)

    def test_signals(self):
        self.assertEqual(Spec(["b", "a"], ["d", "c"], 0, [], []).signals, ("b", "a", "d", "c"))
        self.assertEqual(Spec([], ["x"], 0, [], []).signals, ("x",))
        self.assertEqual(Spec(["x"], [], 0, [], []).signals, ("x",))
        self.assertEqual(Spec([], [], 0, [], []).signals, ())
        self.assertIsInstance(vars(Spec)["signals"], property)

    def test_later_changes_have_no_effect(self):
        inputs, outputs, assumptions, guarantees = ["r"], ["g"], [R], [G]
        spec = Spec(inputs, outputs, 1, assumptions, guarantees)
        inputs.append("x")
        outputs[0] = "y"
        assumptions.append(G)
        guarantees.clear()
        self.assertEqual(spec_parts(spec), (("r",), ("g",), 1, (R,), (G,), False))
        self.assertEqual(spec.signals, ("r", "g"))

    def test_every_lead(self):
        for lead in LEADS:
            self.assertEqual(Spec(["r"], ["g"], lead, [], []).lead, lead)
        for lead in (-4, 3, -100, 100):
            with self.assertRaises(InvalidSpec):
                Spec(["r"], ["g"], lead, [], [])

    def test_names(self):
        for name in ("a", "z", "a0", "z9", "request12", "truex", "exist", "falsey", "forall0", "u", "g0g0"):
            self.assertEqual(Spec([name], [], 0, [], []).inputs, (name,))
            self.assertEqual(Spec([], [name], 0, [], []).outputs, (name,))
        for name in ("", "A", "aB", "0a", "1", "a_b", "_a", "a b", " a", "a ", "a,", "a-b", "true", "false", "exists",
                     "forall", "G", "X", "!a", "a\n", "(a)", "a.b"):
            for inputs, outputs in (([name], []), ([], [name]), (["r", name], ["g"]), (["r"], ["g", name, "h"])):
                with self.subTest((inputs, outputs)):
                    with self.assertRaises(InvalidSpec):
                        Spec(inputs, outputs, 0, [], [])

    def test_equal_names(self):
        for inputs, outputs in ((["a", "a"], []), ([], ["a", "a"]), (["a"], ["a"]), (["a", "b"], ["c", "b"]),
                                (["a", "b", "a"], ["c"]), (["c"], ["a", "b", "a"])):
            with self.assertRaises(InvalidSpec):
                Spec(inputs, outputs, 0, [], [])

    def test_numbers_of_names(self):
        four = ["a", "b", "c", "d"]
        self.assertEqual(len(Spec(four[:3], ["e", "f", "g"], 0, [], []).signals), 6)
        for inputs, outputs in ((four, []), ([], four), (four, ["e"]), (["e"], four), (four + ["e"], ["f"])):
            with self.assertRaises(InvalidSpec):
                Spec(inputs, outputs, 0, [], [])


class SatisfiesTest(unittest.TestCase):
    def test_without_properties(self):
        self.assertIs(satisfies(Spec(["r"], ["g"], 0, [], []), ((), (2,))), True)
        self.assertIs(satisfies(Spec(["r"], ["g"], 0, [], [], negated=True), ((), (2,))), False)
        self.assertIs(satisfies(Spec([], [], 0, [], []), ((), (0,))), True)

    def test_assumptions_and_guarantees(self):
        # Letter 1 has r alone, letter 2 has g alone.
        for assumptions, guarantees, expected in (
                ([], ["G F g"], "TFFT"), (["G F r"], [], "TTTT"), (["false"], ["false"], "TTTT"),
                (["G F r"], ["G F g"], "TTFT"), (["G F r", "F G r"], ["G F g"], "TTFT"),
                ([], ["G F g", "G F r"], "FFFT"), ([], ["r", "g"], "FFFT"), (["r | g"], ["r & g"], "FTFT")):
            for negated in (False, True):
                spec = made(["r"], ["g"], assumptions, guarantees, negated=negated)
                found = [satisfies(spec, ((), (letter,))) for letter in (2, 0, 1, 3)]
                self.assertEqual(found, [(letter == "T") != negated for letter in expected])

    def test_only_turn_0_counts(self):
        spec = made(["r"], ["g"], ["r"], ["g"])
        self.assertIs(satisfies(spec, ((1,), (2,))), False)
        self.assertIs(satisfies(spec, ((3,), (1,))), True)
        self.assertIs(satisfies(spec, ((0,), (1,))), True)

    def test_the_order_of_the_signals(self):
        spec = made(["a", "b"], ["c"], [], ["b & !a & !c"])
        self.assertEqual([satisfies(spec, ((letter,), (0,))) for letter in range(8)], [at == 2 for at in range(8)])
        spec = made(["b"], ["c", "a"], [], ["b & !a & c"])
        self.assertEqual([satisfies(spec, ((letter,), (0,))) for letter in range(8)], [at == 3 for at in range(8)])

    def test_hidden_signals(self):
        spec = made([], ["g"], ["exists h: h & G(h <-> !X h) & G(h -> g)"], ["forall h: G(h -> g) -> G(h -> X g)"])
        for lasso in lassos(2, 2, 3):
            word = make_lasso(*lasso)
            even = word in (((), (1, 0)), ((), (1,)))
            even = even or all(letter == 1 for letter in (list(word[0]) + list(word[1]) * 20)[:40:2])
            everything = word == ((), (1,)) or (1 not in word[0] + word[1]) or not any(
                (list(word[0]) + list(word[1]) * 3)[at] == 1 and (list(word[0]) + list(word[1]) * 3)[at + 1] == 0
                for at in range(len(word[0]) + 2 * len(word[1])))
            self.assertIs(satisfies(spec, lasso), not even or everything, lasso)

    def test_against_the_definition(self):
        chooser = generator(140)
        for _ in range(200):
            names = ["r", "s", "g"]
            assumptions = [random_formula(chooser, names, chooser.randint(0, 3)) for _ in range(chooser.randint(0, 2))]
            guarantees = [random_formula(chooser, names, chooser.randint(0, 3)) for _ in range(chooser.randint(0, 2))]
            for negated in (False, True):
                spec = Spec(["r", "s"], ["g"], 0, assumptions, guarantees, negated=negated)
                lasso = random_lasso(chooser, 8, 3, 3)
                assumed = all(truth_at(prop, names, lasso, 0) for prop in assumptions)
                met = all(truth_at(prop, names, lasso, 0) for prop in guarantees)
                self.assertIs(satisfies(spec, lasso), (not assumed or met) != negated)

    def test_words_in_any_form(self):
        spec = made(["r"], ["g"], ["G F r"], ["G(r -> X g)", "O r"])
        for lasso in lassos(4, 1, 2):
            expected = satisfies(spec, make_lasso(*lasso))
            self.assertIs(satisfies(spec, (lasso[0] + lasso[1], lasso[1] * 2)), expected)

    def test_wrong_letters(self):
        for spec, letters in ((made(["r"], ["g"], ["false"], []), 4), (made(["r"], ["g"], [], []), 4),
                              (made(["r"], ["g"], [], ["g"], negated=True), 4), (made([], [], [], []), 1),
                              (made(["a", "b", "c"], ["d", "e", "f"], ["a"], ["f"]), 64)):
            satisfies(spec, ((letters - 1,), (letters - 1,)))
            for wrong in (letters, letters + 1, 10 ** 20):
                for lasso in (((wrong,), (0,)), ((), (wrong,)), ((0, wrong), (0,)), ((0,), (0, wrong, 0))):
                    with self.assertRaises(InvalidLetter):
                        satisfies(spec, lasso)


class DualTest(unittest.TestCase):
    def test_parts(self):
        spec = Spec(["r", "s"], ["g"], -2, [R], [G, ("always", G)])
        self.assertEqual(spec_parts(dual(spec)), (("g",), ("r", "s"), 1, (R,), (G, ("always", G)), True))
        self.assertEqual(dual(spec).signals, ("g", "r", "s"))
        self.assertEqual(spec_parts(spec), (("r", "s"), ("g",), -2, (R,), (G, ("always", G)), False))

    def test_every_lead(self):
        for lead in LEADS:
            for negated in (False, True):
                spec = Spec(["r"], ["g"], lead, [R], [G], negated=negated)
                self.assertEqual(dual(spec).lead, -1 - lead)
                self.assertIs(dual(spec).negated, not negated)
                self.assertEqual(spec_parts(dual(dual(spec))), spec_parts(spec))

    def test_letters(self):
        chooser = generator(141)
        for _ in range(80):
            inputs = ["a", "b", "c"][:chooser.randint(0, 3)]
            outputs = ["x", "y", "z"][:chooser.randint(0, 3)]
            spec = random_spec(chooser, inputs, outputs, 3)
            p, r = 1 << len(inputs), 1 << len(outputs)
            table = [letter // p + r * (letter % p) for letter in range(p * r)]
            for _ in range(5):
                lasso = random_lasso(chooser, p * r, 3, 3)
                self.assertIs(satisfies(dual(spec), relabel(lasso, table)), not satisfies(spec, lasso))
                self.assertIs(satisfies(dual(dual(spec)), lasso), satisfies(spec, lasso))


class SpecAutomatonTest(unittest.TestCase):
    def check(self, spec, some):
        automaton = spec_automaton(spec)
        self.assertEqual(automaton.letters, 1 << len(spec.signals))
        for lasso in some:
            self.assertIs(buchi_accepts(automaton, lasso), satisfies(spec, lasso), (spec_parts(spec), lasso))
        return automaton

    def test_without_properties(self):
        for inputs, outputs in (([], []), (["r"], []), ([], ["g"]), (["a", "b", "c"], ["d", "e", "f"])):
            letters = 1 << len(inputs + outputs)
            self.check(Spec(inputs, outputs, 0, [], []), [((), (letter,)) for letter in range(letters)])
            self.check(Spec(inputs, outputs, 0, [], [], negated=True), [((), (letter,)) for letter in range(letters)])

    def test_each_kind_of_property(self):
        plain, other = "G(r -> F g)", "G F r"
        exists, forall = "exists h: G(h <-> X !h) & G(h -> g)", "forall h: G(h -> r) | G F(h <-> g)"
        some = lassos(4, 1, 2)
        for assumptions in ([], [other], [exists], [forall], [plain, exists], [forall, exists], [other, plain]):
            for guarantees in ([], [plain], [exists], [forall], [other, forall], [exists, plain], [plain, other]):
                for negated in (False, True):
                    self.check(made(["r"], ["g"], assumptions, guarantees, negated=negated), some)

    def test_assumptions_that_never_hold(self):
        for negated in (False, True):
            spec = made(["r"], ["g"], ["G r & F !r"], ["false"], negated=negated)
            automaton = self.check(spec, lassos(4, 1, 2))
            self.assertEqual(find_word(automaton) is None, negated)

    def test_random_specifications(self):
        chooser = generator(142)
        for _ in range(150):
            spec = random_spec(chooser, ["r", "s"][:chooser.randint(0, 2)], ["g", "h"][:chooser.randint(0, 2)], 4)
            letters = 1 << len(spec.signals)
            self.check(spec, [random_lasso(chooser, letters, 3, 3) for _ in range(10)])

    def test_six_properties_and_six_signals(self):
        chooser = generator(143)
        for negated in (False, True):
            spec = made(["a", "b", "c"], ["x", "y", "z"], ["G F a", "G F b", "G !(a & b)"],
                        ["G(a -> F x)", "G(b -> F y)", "G !(x & y)"], negated=negated)
            self.check(spec, [random_lasso(chooser, 64, 3, 4) for _ in range(60)])

    def test_the_dual(self):
        spec = made(["r"], ["g"], ["G F r"], ["G(r -> X g)"])
        first, second = spec_automaton(spec), spec_automaton(dual(spec))
        for lasso in lassos(4, 1, 2):
            turned = relabel(lasso, [0, 2, 1, 3])
            self.assertIs(accepts(second, turned), not accepts(first, lasso))


if __name__ == "__main__":
    unittest.main()
