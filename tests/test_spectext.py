"""Points 36 and 37 and the interface of reactivesynth/spectext.py."""

import unittest

from reactivesynth.errors import DuplicateSignal, FormulaSyntaxError, SpecSyntaxError, TooLarge, UnknownSignal
from reactivesynth.formulas import temporal_count
from reactivesynth.parsing import parse_property
from reactivesynth.printing import format_property
from reactivesynth.signs import formula_of
from reactivesynth.specs import Spec
from reactivesynth.spectext import format_spec, parse_spec
from tests.samples import generator, random_property, spec_parts

LEADS = (-3, -2, -1, 0, 1, 2)
A, B = ("signal", "a"), ("signal", "b")
HIDDEN = ("exists", ("h", "k2"), ("always", ("iff", ("signal", "h"), ("not", ("next", ("signal", "k2"))))))
OTHER_HIDDEN = ("forall", ("h",), ("since", ("signal", "h"), A))
BEGIN = "inputs a\noutputs b\nlead 0\n"


class FormatTest(unittest.TestCase):
    def test_every_kind_of_line(self):
        spec = Spec(["a", "b1"], ["c"], -2, [("always", A), OTHER_HIDDEN], [("until", A, ("signal", "c")), HIDDEN],
                    negated=True)
        self.assertEqual(format_spec(spec), "inputs a b1\noutputs c\nlead -2\nassume Ga\nassume forall h: (h S a)\n"
                                            "guarantee (a U c)\nguarantee exists h, k2: G(h <-> !Xk2)\nnegated\n")

    def test_lines_without_anything(self):
        self.assertEqual(format_spec(Spec([], [], 0, [], [])), "inputs\noutputs\nlead 0\n")
        self.assertEqual(format_spec(Spec([], [], 2, [], [], negated=True)), "inputs\noutputs\nlead 2\nnegated\n")
        self.assertEqual(format_spec(Spec(["a"], [], -3, [], [A])), "inputs a\noutputs\nlead -3\nguarantee a\n")
        self.assertEqual(format_spec(Spec([], ["a"], 1, [A], [])), "inputs\noutputs a\nlead 1\nassume a\n")

    def test_six_names_in_their_order(self):
        spec = Spec(["c", "a", "b"], ["z", "x", "y"], 0, [], [])
        self.assertEqual(format_spec(spec), "inputs c a b\noutputs z x y\nlead 0\n")


class RoundTripTest(unittest.TestCase):
    def check(self, spec):
        text = format_spec(spec)
        again = parse_spec(text)
        self.assertEqual(spec_parts(again), spec_parts(spec))
        self.assertIs(type(again.negated), bool)
        self.assertEqual(format_spec(again), text)

    def test_every_lead_and_number_of_names(self):
        for lead in LEADS:
            for inputs in ([], ["a"], ["b", "a"], ["a", "b", "c"]):
                for outputs in ([], ["x"], ["x", "y9"], ["z", "y", "x"]):
                    for negated in (False, True):
                        self.check(Spec(inputs, outputs, lead, [], [("signal", name) for name in inputs + outputs][:6],
                                        negated=negated))

    def test_every_number_of_properties(self):
        for assumptions in range(7):
            for guarantees in range(7 - assumptions):
                for negated in (False, True):
                    props = [A, HIDDEN, ("or", A, B), OTHER_HIDDEN, ("not", B), ("true",)]
                    self.check(Spec(["a"], ["b"], 0, props[:assumptions], props[assumptions:assumptions + guarantees],
                                    negated=negated))

    def test_names_that_are_like_other_words(self):
        names = ["inputs", "lead", "assume"], ["negated", "guarantee", "outputs"]
        self.check(Spec(names[0], names[1], 0, [("signal", "negated")], [("signal", "assume")], negated=True))

    def test_random_specs(self):
        chooser = generator(310)
        count = 0
        while count < 400:
            names = ["a", "b", "c", "x"][:chooser.randint(0, 4)]
            cut = chooser.randint(0, min(3, len(names)))
            if len(names) - cut > 3:
                continue
            props = [random_property(chooser, names, chooser.randint(0, 5), chooser.choice((0, 0, 1, 2, 3)))
                     for _ in range(chooser.randint(0, 6))]
            texts = [format_property(prop) for prop in props]
            if sum(temporal_count(formula_of(prop)) for prop in props) <= 8 and all(len(text) <= 200 for text in texts):
                middle = chooser.randint(0, len(props))
                self.check(Spec(names[:cut], names[cut:], chooser.choice(LEADS), props[:middle], props[middle:],
                                negated=chooser.random() < 0.5))
                count += 1


class ParseTest(unittest.TestCase):
    def test_examples(self):
        spec = parse_spec("inputs r\noutputs g\nlead 0\nguarantee G(r -> F g)\n")
        self.assertEqual((spec.signals, spec.lead, spec.guarantees),
                         (("r", "g"), 0,
                          (("always", ("implies", ("signal", "r"), ("eventually", ("signal", "g")))),)))
        with self.assertRaises(SpecSyntaxError) as caught:
            parse_spec("inputs r\noutputs r\nlead 0\n")
        self.assertEqual(caught.exception.line, 1)

    def test_properties_in_any_form(self):
        spec = parse_spec(BEGIN + "assume   a&b  \nguarantee exists h,k : h|k->a\nguarantee  GFa\n")
        self.assertEqual(spec.assumptions, (("and", A, B),))
        self.assertEqual(spec.guarantees, (parse_property("exists h, k: ((h | k) -> a)", ["a", "b"]),
                                           ("always", ("eventually", A))))

    def test_eight_temporal_operators_together(self):
        spec = parse_spec(BEGIN + "assume XXa\nassume a U b\nguarantee exists h: G(h S a)\nguarantee YOHb\n")
        self.assertEqual((len(spec.assumptions), len(spec.guarantees)), (2, 2))


class WrongLineTest(unittest.TestCase):
    def check(self, line, *texts):
        for text in texts:
            with self.subTest(text):
                with self.assertRaises(SpecSyntaxError) as caught:
                    parse_spec(text)
                self.assertEqual(caught.exception.line, line)

    def test_lines_too_few(self):
        self.check(0, "", " ", "inputs", "inputs a", "inputs a outputs b lead 0", "x", "inputs A")
        self.check(1, "inputs\n", "inputs a\n", "inputs a\noutputs b", "inputs a\noutputs A", "inputs a\n ")
        self.check(2, "inputs\noutputs\n", "inputs a\noutputs b\nlead 0", "inputs a\noutputs b\nlead 7",
                   "inputs a\noutputs b\nx")

    def test_something_after_the_last_line_feed(self):
        self.check(3, BEGIN + "x", BEGIN + " ", BEGIN + "negated", BEGIN + "guarantee a", BEGIN + "guarantee &")
        self.check(4, BEGIN + "guarantee a\nguarantee b", BEGIN + "guarantee a\nnegated", BEGIN + "negated\nnegated",
                   BEGIN + "negated\n ", BEGIN + "guarantee a\nassume a", BEGIN + "guarantee a\n&")
        self.check(10, BEGIN + "guarantee a\n" * 6 + "negated\nx")

    def test_the_line_with_the_inputs(self):
        for line in ("", " ", "input", "input a", "inputsa", "inputs ", " inputs", "inputs  a", "inputs a ",
                     "inputs a  b", "inputs A", "inputs 1", "inputs 1a", "inputs a_b", "inputs a,b", "inputs a, b",
                     "inputs true",
                     "inputs a false", "inputs exists", "inputs forall a", "inputs a a", "inputs a b a",
                     "inputs a b c d", "inputs a b c a", "outputs b", "Inputs a", "inputs: a", "inputs aB", "inputs X",
                     "a"):
            self.check(0, line + "\noutputs g\nlead 0\n", line + "\n", line + "\noutputs A\nlead 9\nx")

    def test_the_line_with_the_outputs(self):
        for line in ("", " ", "output", "output b", "outputsb", "outputs ", " outputs", "outputs  b", "outputs b ",
                     "outputs b  c", "outputs B", "outputs 7", "outputs b!", "outputs true", "outputs b exists",
                     "outputs b b", "outputs a", "outputs b a", "outputs a2", "outputs b c d e", "outputs b c d a",
                     "inputs b", "lead 0"):
            self.check(1, "inputs a a2\n" + line + "\nlead 0\n", "inputs a a2\n" + line + "\n",
                       "inputs a a2\n" + line + "\nlead 9\nx")

    def test_the_line_with_the_lead(self):
        for line in ("", " ", "lead", "lead ", " lead 0", "lead  0", "lead 0 ", "lead0", "lead -4", "lead 3", "lead 10",
                     "lead 00", "lead 01", "lead -01", "lead -0", "lead +1", "lead --1", "lead - 1", "lead 1-",
                     "lead x",
                     "lead 0x1", "lead 1 1", "lead 1.", "lead 1_0", "Lead 0", "assume a", "guarantee a", "negated",
                     "lead 99999999999999999999", "lead -99999999999999999999"):
            self.check(2, "inputs a\noutputs b\n" + line + "\n", "inputs a\noutputs b\n" + line + "\nx",
                       "inputs a\noutputs b\n" + line + "\nguarantee &\n")

    def test_a_lead_with_very_many_digits(self):
        self.check(2, "inputs\noutputs\nlead 1" + "0" * 5000 + "\n", "inputs\noutputs\nlead -1" + "0" * 5000 + "\n")

    def test_lines_that_are_no_properties(self):
        for line in ("", " ", "assume", "guarantee", "assumea", "guaranteea", " assume a", " guarantee a", "assumes a",
                     "Assume a", "guarantees a", "a", "inputs a", "lead 0", "negated ", " negated", "negate", "Negated",
                     "negated a", "assume(a)"):
            self.check(3, BEGIN + line + "\n", BEGIN + line + "\nguarantee &\n", BEGIN + line + "\nx",
                       BEGIN + line + "\nnegated\n")
            self.check(4, BEGIN + "assume a\n" + line + "\n", BEGIN + "guarantee a\n" + line + "\nnegated\n")

    def test_negated_stands_last(self):
        self.check(3, BEGIN + "negated\nguarantee a\n", BEGIN + "negated\nnegated\n", BEGIN + "negated\n\n",
                   BEGIN + "negated\nx\n")
        self.check(4, BEGIN + "guarantee a\nnegated\nguarantee b\n", BEGIN + "assume a\nnegated\nnegated\n")

    def test_an_assumption_after_a_guarantee(self):
        self.check(4, BEGIN + "guarantee a\nassume a\n", BEGIN + "guarantee a\nassume &\n")
        self.check(5, BEGIN + "assume a\nguarantee a\nassume a\nguarantee a\n")

    def test_a_seventh_property(self):
        for first in range(7):
            lines = "assume a\n" * first + "guarantee a\n" * (6 - first)
            self.assertEqual(len(parse_spec(BEGIN + lines + "negated\n").assumptions), first)
            self.check(9, BEGIN + lines + "guarantee a\n", BEGIN + lines + "guarantee a\nnegated\n",
                       BEGIN + lines + "guarantee &\n", BEGIN + lines + "assume a\n", BEGIN + lines + "x\n")


class PropertyErrorTest(unittest.TestCase):
    def raised(self, error, text):
        with self.assertRaises(error) as caught:
            parse_spec(text)
        return caught.exception

    def test_positions_count_from_the_property(self):
        for text, position in (("", 0), (" ", 1), ("a &", 3), ("(a & ) b", 5), ("a b", 2), ("  )", 2), ("exists a", 8),
                               ("A", 0), ("a - b", 2), ("a 1", 2), ("exists h h: a", 9), ("negated:", 7)):
            for lines in ("assume " + text, "guarantee " + text, "assume a\nguarantee " + text):
                error = self.raised(FormulaSyntaxError, BEGIN + lines + "\n")
                self.assertEqual(error.position, position, lines)

    def test_names(self):
        self.assertEqual(self.raised(UnknownSignal, BEGIN + "guarantee a & c | d\n").name, "c")
        self.assertEqual(self.raised(UnknownSignal, BEGIN + "assume exists h: h & k\n").name, "k")
        self.assertEqual(self.raised(UnknownSignal, "inputs\noutputs\nlead 0\nguarantee a\n").name, "a")
        self.assertEqual(self.raised(DuplicateSignal, BEGIN + "guarantee exists b, a: c\n").name, "b")
        self.assertEqual(self.raised(DuplicateSignal, BEGIN + "guarantee forall h, k, h: c\n").name, "h")

    def test_bounds_of_one_property(self):
        for text in ("a" * 201, "(" * 21 + "a" + ")" * 21, "X" * 9 + "a", "exists h, i, j, k: a",
                     "a W a W a W a W a W a W a W a", "!" * 100 + "a", "! " * 100 + "a"):
            self.raised(TooLarge, BEGIN + "guarantee " + text + "\n")
        self.assertEqual(len(parse_spec(BEGIN + "guarantee " + "a" + " " * 199 + "\n").guarantees), 1)
        self.assertEqual(len(parse_spec(BEGIN + "guarantee " + "!" * 99 + "a\n").guarantees), 1)

    def test_nine_temporal_operators_together(self):
        for lines in ("assume XXXXXa\nguarantee YYYYa\n", "guarantee XXXXXXXXa\nguarantee b S a\n",
                      "assume exists h: GFh\nassume GFa\nassume GFb\nguarantee GF(a & b)\nguarantee Xa\n",
                      "assume a U b\nassume a W b\nassume a R b\nguarantee a S b\nguarantee a T b\n"
                      "guarantee G F Y Z a\n"):
            self.raised(TooLarge, BEGIN + lines)
            self.raised(TooLarge, BEGIN + lines + "negated\n")

    def test_the_bound_of_all_comes_last(self):
        lines = "assume XXXXXa\nguarantee YYYYa\n"
        self.assertEqual(self.raised(SpecSyntaxError, BEGIN + lines + "x").line, 5)
        self.assertEqual(self.raised(SpecSyntaxError, BEGIN + lines + "x\n").line, 5)
        self.assertEqual(self.raised(FormulaSyntaxError, BEGIN + lines + "guarantee b &\n").position, 3)
        self.assertEqual(self.raised(UnknownSignal, BEGIN + lines + "guarantee c\n").name, "c")

    def test_the_first_line_decides(self):
        self.assertEqual(self.raised(FormulaSyntaxError, BEGIN + "assume a &\nx\n").position, 3)
        self.assertEqual(self.raised(UnknownSignal, BEGIN + "assume c\nguarantee &\n").name, "c")
        self.assertEqual(self.raised(SpecSyntaxError, BEGIN + "x\nassume a &\n").line, 3)
        self.assertEqual(self.raised(SpecSyntaxError, "inputs A\noutputs\nlead 0\nassume &\n").line, 0)
        self.raised(TooLarge, BEGIN + "guarantee " + "X" * 9 + "a\nassume a\n")
        self.assertEqual(self.raised(UnknownSignal, BEGIN + "guarantee c\nguarantee " + "X" * 9 + "a\n").name, "c")


if __name__ == "__main__":
    unittest.main()
