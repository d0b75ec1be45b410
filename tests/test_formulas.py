"""Points 9 and 12 and the interface of reactivesynth/formulas.py."""

import unittest

from reactivesynth.formulas import normal_form, signal_names, temporal_count
from tests.samples import BINARY, TEMPORAL, UNARY, generator, random_formula

T = ("true",)
F = ("false",)
A = ("signal", "a")
B = ("signal", "b")
NA = ("not", A)
NB = ("not", B)

# Formula, N, N': the table of point 12 with f = a and g = b.
TABLE = (
    (T, T, F),
    (F, F, T),
    (A, A, NA),
    (("not", A), NA, A),
    (("and", A, B), ("and", A, B), ("or", NA, NB)),
    (("or", A, B), ("or", A, B), ("and", NA, NB)),
    (("implies", A, B), ("or", NA, B), ("and", A, NB)),
    (("iff", A, B), ("or", ("and", A, B), ("and", NA, NB)), ("or", ("and", A, NB), ("and", NA, B))),
    (("next", A), ("next", A), ("next", NA)),
    (("eventually", A), ("until", T, A), ("release", F, NA)),
    (("always", A), ("release", F, A), ("until", T, NA)),
    (("until", A, B), ("until", A, B), ("release", NA, NB)),
    (("weak_until", A, B), ("release", B, ("or", A, B)), ("until", NB, ("and", NA, NB))),
    (("release", A, B), ("release", A, B), ("until", NA, NB)),
    (("previous", A), ("previous", A), ("weak_previous", NA)),
    (("weak_previous", A), ("weak_previous", A), ("previous", NA)),
    (("once", A), ("since", T, A), ("trigger", F, NA)),
    (("historically", A), ("trigger", F, A), ("since", T, NA)),
    (("since", A, B), ("since", A, B), ("trigger", NA, NB)),
    (("trigger", A, B), ("trigger", A, B), ("since", NA, NB)),
)


def replaced(formula, first, second):
    """Return a formula of the table with other parts in the place of a and b."""
    if formula == A:
        return first
    if formula == B:
        return second
    return (formula[0],) + tuple(replaced(part, first, second) for part in formula[1:])


def filled(formula, first, second):
    """Return a normal form of the table with the pairs (N, N') in the place of a and b."""
    for literal, value in ((NA, first[1]), (NB, second[1]), (A, first[0]), (B, second[0])):
        if formula == literal:
            return value
    return (formula[0],) + tuple(filled(part, first, second) for part in formula[1:])


class NormalFormTest(unittest.TestCase):
    def test_example(self):
        self.assertEqual(normal_form(("not", ("eventually", ("signal", "a")))),
                         ("release", ("false",), ("not", ("signal", "a"))))

    def test_first_column(self):
        for formula, normal, _ in TABLE:
            with self.subTest(formula):
                self.assertEqual(normal_form(formula), normal)

    def test_second_column(self):
        for formula, _, negated in TABLE:
            with self.subTest(formula):
                self.assertEqual(normal_form(("not", formula)), negated)
                self.assertEqual(normal_form(("not", ("not", ("not", formula)))), negated)

    def test_every_operator_within_every_operator(self):
        for outer, normal, negated in TABLE:
            for left, left_normal, left_negated in TABLE:
                for right, right_normal, right_negated in TABLE:
                    pairs = ((left_normal, left_negated), (right_normal, right_negated))
                    formula = replaced(outer, left, right)
                    self.assertEqual(normal_form(formula), filled(normal, *pairs))
                    self.assertEqual(normal_form(("not", formula)), filled(negated, *pairs))

    def test_several_operators_within_one_another(self):
        formula = ("not", ("always", ("implies", A, ("weak_until", ("previous", B), ("not", A)))))
        self.assertEqual(normal_form(formula), (
            "until", T, ("and", A, ("until", A, ("and", ("weak_previous", NB), A)))))
        formula = ("iff", ("once", A), ("not", ("next", B)))
        self.assertEqual(normal_form(formula), (
            "or", ("and", ("since", T, A), ("next", NB)), ("and", ("trigger", F, NA), ("next", B))))

    def test_deep_formula(self):
        formula, expected = A, A
        for _ in range(49):
            formula, expected = ("not", ("next", formula)), ("next", expected)
        self.assertEqual(normal_form(("not", formula)), expected)


class CountTest(unittest.TestCase):
    def test_each_operator(self):
        for kind in UNARY:
            self.assertEqual(temporal_count((kind, A)), 1 if kind in TEMPORAL else 0)
        for kind in BINARY:
            self.assertEqual(temporal_count((kind, A, B)), 1 if kind in TEMPORAL else 0)
        for formula in (T, F, A):
            self.assertEqual(temporal_count(formula), 0)

    def test_each_occurrence_counts(self):
        part = ("next", A)
        self.assertEqual(temporal_count(("and", part, part)), 2)
        self.assertEqual(temporal_count(("until", ("until", A, part), ("since", part, ("once", T)))), 6)

    def test_random_formulas(self):
        chooser = generator(3)
        for _ in range(200):
            formula = random_formula(chooser, ["a", "b"], 10)
            count = sum(repr(formula).count(f"'{kind}'") for kind in TEMPORAL)
            self.assertEqual(temporal_count(formula), count)


class SignalNamesTest(unittest.TestCase):
    def test_none(self):
        self.assertEqual(signal_names(("and", T, ("next", F))), [])

    def test_order_and_duplicates(self):
        formula = ("and", ("signal", "b"), ("until", ("signal", "a10"), ("or", ("signal", "a9"), ("signal", "b"))))
        self.assertEqual(signal_names(formula), ["a10", "a9", "b"])
        self.assertEqual(signal_names(("and", ("signal", "z"), ("and", ("signal", "aa"), ("signal", "a")))),
                         ["a", "aa", "z"])

    def test_names_like_operators(self):
        self.assertEqual(signal_names(("not", ("signal", "signal"))), ["signal"])
        self.assertEqual(signal_names(("or", ("signal", "not"), ("signal", "next"))), ["next", "not"])

    def test_a_new_list_each_time(self):
        formula = ("and", A, B)
        first = signal_names(formula)
        first.append("c")
        self.assertEqual(signal_names(formula), ["a", "b"])


if __name__ == "__main__":
    unittest.main()
