"""Point 14 and the interface of reactivesynth/printing.py."""

import unittest

from reactivesynth.parsing import parse_property
from reactivesynth.printing import format_property
from tests.samples import generator, random_formula
from tests.test_parsing import INFIX, PREFIX, formula_fits

A = ("signal", "a")
B = ("signal", "b")


class FormatTest(unittest.TestCase):
    def test_example(self):
        self.assertEqual(
            format_property(("always", ("implies", ("signal", "a"), ("next", ("not", ("signal", "b")))))),
            "G(a -> X!b)")

    def test_constants_and_names(self):
        self.assertEqual(format_property(("true",)), "true")
        self.assertEqual(format_property(("false",)), "false")
        self.assertEqual(format_property(("signal", "ab12")), "ab12")
        self.assertEqual(format_property(("signal", "not")), "not")

    def test_every_sign(self):
        for sign, kind in PREFIX.items():
            self.assertEqual(format_property((kind, A)), f"{sign}a")
            self.assertEqual(format_property((kind, (kind, ("true",)))), f"{sign}{sign}true")
        for sign, kind in INFIX.items():
            self.assertEqual(format_property((kind, A, B)), f"(a {sign} b)")
            self.assertEqual(format_property((kind, (kind, A, B), (kind, B, A))), f"((a {sign} b) {sign} (b {sign} a))")

    def test_quantified(self):
        self.assertEqual(format_property(("exists", ("h",), ("not", ("signal", "h")))), "exists h: !h")
        self.assertEqual(format_property(("forall", ("h", "k2", "l"), ("and", A, ("signal", "k2")))),
                         "forall h, k2, l: (a & k2)")

    def test_reading_what_is_printed(self):
        chooser = generator(6)
        read = 0
        while read < 1000:
            hidden = tuple(["h", "k", "l3"][:chooser.randint(0, 3)])
            formula = random_formula(chooser, ["a", "b"] + list(hidden), chooser.randint(0, 8))
            prop = (chooser.choice(("exists", "forall")), hidden, formula) if hidden else formula
            text = format_property(prop)
            if len(text) <= 200 and formula_fits(formula):
                self.assertEqual(parse_property(text, ["a", "b"]), prop)
                read += 1


if __name__ == "__main__":
    unittest.main()
