"""Points 13 and 15 and the interface of reactivesynth/parsing.py."""

import unittest

from reactivesynth.errors import DuplicateSignal, FormulaSyntaxError, TooLarge, UnknownSignal
from reactivesynth.parsing import parse_property
from tests.grammar import SIGNS, WORDS, first_wrong
from tests.samples import generator, random_formula

A = ("signal", "a")
B = ("signal", "b")
C = ("signal", "c")
NAMES = ["a", "b", "c"]

PREFIX = {"!": "not", "X": "next", "F": "eventually", "G": "always", "Y": "previous", "Z": "weak_previous",
          "O": "once", "H": "historically"}
INFIX = {"<->": "iff", "->": "implies", "|": "or", "&": "and", "U": "until", "W": "weak_until", "R": "release",
         "S": "since", "T": "trigger"}
STRENGTH = {"<->": 0, "->": 1, "|": 2, "&": 3, "U": 4, "W": 4, "R": 4, "S": 4, "T": 4}


def written(formula, strength):
    """Return the tokens of a formula with as few parentheses as the grammar allows.

    The formula stands where operators of at least this strength may stand.
    """
    kind = formula[0]
    if len(formula) == 1:
        return [kind]
    if kind == "signal":
        return [formula[1]]
    if len(formula) == 2:
        sign = next(sign for sign in PREFIX if PREFIX[sign] == kind)
        return [sign] + written(formula[1], 5)
    sign = next(sign for sign in INFIX if INFIX[sign] == kind)
    own = STRENGTH[sign]
    to_the_left = sign in "|&"
    tokens = written(formula[1], own if to_the_left else own + 1) + [sign]
    tokens += written(formula[2], own + 1 if to_the_left else own)
    return ["("] + tokens + [")"] if own < strength else tokens


def spaced(chooser, tokens):
    """Return the tokens with spaces, at least one where two words would become one."""
    text = " " * chooser.choice((0, 0, 1, 3))
    for before, token in zip([""] + tokens, tokens):
        needed = before[-1:].isalnum() and before[-1:] not in "XFGYZOHUWRST" and token[0].islower()
        text += " " * (chooser.choice((1, 1, 2)) if needed else chooser.choice((0, 0, 1, 2))) + token
    return text + " " * chooser.choice((0, 0, 1, 3))


class ReadTest(unittest.TestCase):
    def check(self, text, expected, names=tuple(NAMES)):
        with self.subTest(text):
            self.assertEqual(parse_property(text, list(names)), expected)

    def test_examples(self):
        self.check("a U b U !a & b", (
            "and", ("until", ("signal", "a"), ("until", ("signal", "b"), ("not", ("signal", "a")))), ("signal", "b")),
            ("a", "b"))
        self.check("exists h: G(h <-> !Xh)", (
            "exists", ("h",), ("always", ("iff", ("signal", "h"), ("not", ("next", ("signal", "h")))))), ())

    def test_every_sign_with_one_operand(self):
        for sign, kind in PREFIX.items():
            self.check(sign + "a", (kind, A))
            self.check(sign + " " + sign + "(" + sign + "a)", (kind, (kind, (kind, A))))

    def test_every_sign_with_two_operands(self):
        for sign, kind in INFIX.items():
            self.check(f"a{sign}b", (kind, A, B))
            self.check(f"  a  {sign}  b  ", (kind, A, B))
            self.check(f"(a {sign} b)", (kind, A, B))

    def test_constants_and_names(self):
        self.check("true", ("true",))
        self.check("false", ("false",))
        for name in ("a", "z9", "true1", "truex", "falsey", "exists0", "forallx", "exist", "name", "end", "bad",
                     "signal", "not", "ab12cd"):
            self.check(name, ("signal", name), (name,))
        self.check("trueUfalse", ("until", ("true",), ("false",)))

    def test_names_may_be_a_tuple(self):
        self.assertEqual(parse_property("a", ("a",)), A)

    def test_association(self):
        for sign, kind in INFIX.items():
            left, right = (kind, (kind, A, B), C), (kind, A, (kind, B, C))
            self.check(f"a {sign} b {sign} c", left if sign in "&|" else right)
            self.check(f"(a {sign} b) {sign} c", left)
            self.check(f"a {sign} (b {sign} c)", right)

    def test_association_of_different_temporal_operators(self):
        for sign in "UWRST":
            for other in "UWRST":
                self.check(f"a {sign} b {other} c", (INFIX[sign], A, (INFIX[other], B, C)))

    def test_binding(self):
        for sign, kind in INFIX.items():
            for other, other_kind in INFIX.items():
                if STRENGTH[sign] < STRENGTH[other]:
                    self.check(f"a {sign} b {other} c", (kind, A, (other_kind, B, C)))
                    self.check(f"a {other} b {sign} c", (kind, (other_kind, A, B), C))
                    self.check(f"(a {sign} b) {other} c", (other_kind, (kind, A, B), C))
            for prefix, prefix_kind in PREFIX.items():
                self.check(f"{prefix}a {sign} b", (kind, (prefix_kind, A), B))
                self.check(f"a {sign} {prefix}b", (kind, A, (prefix_kind, B)))
                self.check(f"{prefix}(a {sign} b)", (prefix_kind, (kind, A, B)))

    def test_no_spaces(self):
        self.check("GFp", ("always", ("eventually", ("signal", "p"))), ("p",))
        self.check("ab", ("signal", "ab"), ("a", "b", "ab"))
        self.check("aUbSc", ("until", A, ("since", B, C)))
        self.check("!a&b->XFc<->true", ("iff", ("implies", ("and", ("not", A), B), ("next", ("eventually", C))),
                                        ("true",)))

    def test_quantified(self):
        self.check("forall h, k:h&k", ("forall", ("h", "k"), ("and", ("signal", "h"), ("signal", "k"))))
        self.check(" exists  h2 ,k , l  :  a", ("exists", ("h2", "k", "l"), A))
        self.check("exists h:a<->h", ("exists", ("h",), ("iff", A, ("signal", "h"))))

    def test_spaces_everywhere(self):
        pieces = ["exists ", "h", ",", "k", ":", "!", "(", "a", "->", "h", ")", "U", "k", "<->", "true"]
        expected = ("exists", ("h", "k"), ("iff", (
            "until", ("not", ("implies", A, ("signal", "h"))), ("signal", "k")), ("true",)))
        self.check("".join(pieces), expected)
        self.check(" " + "  ".join(pieces) + "   ", expected)
        for place in range(len(pieces) + 1):
            self.check("".join(pieces[:place]) + "    " + "".join(pieces[place:]), expected)

    def test_random_formulas(self):
        chooser = generator(4)
        read = 0
        while read < 1500:
            formula = random_formula(chooser, NAMES, chooser.randint(0, 8))
            text = spaced(chooser, written(formula, 0))
            if len(text) <= 200 and formula_fits(formula):
                self.assertEqual(parse_property(text, NAMES), formula, text)
                read += 1

    def test_names_stay(self):
        names = ["a"]
        parse_property("exists h, k: a & h", names)
        self.assertEqual(names, ["a"])


def formula_fits(formula):
    """Return True if the formula has no more than six of the operators that double."""
    text = repr(formula)
    return text.count("'iff'") + text.count("'weak_until'") <= 6


class SyntaxTest(unittest.TestCase):
    def check(self, text, position, names=tuple(NAMES)):
        with self.subTest(text):
            with self.assertRaises(FormulaSyntaxError) as caught:
                parse_property(text, list(names))
            self.assertEqual(caught.exception.position, position)

    def test_example(self):
        self.check("(a & ) b", 5, ("a", "b"))

    def test_text_that_ends_too_early(self):
        for text in ("", " ", "   ", "!", "(", "(a", "a &", "a & ", "a ->", "a<->   ", "a U", "X", "GF", "((a)",
                     "exists", "exists h", "exists h,", "exists h :", "forall h, k", "forall h: ("):
            self.check(text, len(text))

    def test_wrong_token_at_the_beginning(self):
        for sign in ("<->", "->", "&", "|", "U", "W", "R", "S", "T", ")", ",", ":"):
            self.check(sign + " a", 0)
            self.check("  " + sign, 2)

    def test_wrong_token_within(self):
        for text, position in (("a a", 2), ("a !b", 2), ("a Xb", 2), ("a (b)", 2), ("a & & b", 4), ("a true", 2),
                               ("(a b)", 3), ("(a,b)", 2), ("()", 1), ("a & (b | ) & c", 9), ("a : b", 2),
                               ("exists : a", 7), ("exists h k: a", 9), ("exists h, : a", 10), ("exists (h): a", 7),
                               ("exists h: k: a", 11), ("exists h, k & a", 12), ("a <-> -> b", 6), ("!& a", 1)):
            self.check(text, position)

    def test_wrong_token_at_the_end(self):
        for text, position in (("a)", 1), ("(a))", 3), ("a,", 1), ("a :", 2), ("exists h: a:", 11), ("a b", 2),
                               ("true false", 5), ("a(", 1), ("a !", 2)):
            self.check(text, position)

    def test_half_arrows(self):
        for text, position in (("a - b", 2), ("a < b", 2), ("a <- b", 2), ("a <-", 2), ("a -", 2), ("a <", 2),
                               ("-> a", 0), ("- a", 0), ("a > b", 2), ("a --> b", 2), ("a <-- b", 2), ("a <<-> b", 2),
                               ("a ->> b", 4), ("a - > b", 2), ("a <- > b", 2), ("a < -> b", 2), ("a = b", 2)):
            self.check(text, position)

    def test_digits_begin_no_token(self):
        for text, position in (("1", 0), ("a 1", 2), ("1a", 0), ("a & 2b", 4), ("X1", 1), ("(7)", 1), ("exists 1: a", 7),
                               ("exists h, 2: a", 10)):
            self.check(text, position)

    def test_words_that_are_no_names(self):
        for text, position in (("a & exists", 4), ("exists h: exists k: a", 10), ("a & forall h: h", 4),
                               ("(exists h: h)", 1), ("!forall h: h", 1), ("a exists", 2), ("exists true: a", 7),
                               ("exists h, false: a", 10), ("forall exists: a", 7), ("forall h, forall: a", 10)):
            self.check(text, position)

    def test_other_characters(self):
        for text, position in (("a\n", 1), ("\na", 0), ("a &\n b", 3), ("A", 0), ("a & B", 4), ("a?", 1), ("a_b", 1),
                               ("aE b", 1), ("a.b", 1), ("a && b", 3), ("a || b", 3), ("a V b", 2), ("{a}", 0),
                               ("a \"", 2), ("exists h; a", 8), ("Na", 0), ("~a", 0)):
            self.check(text, position)

    def test_what_stands_further_left(self):
        self.check("a b ?", 2)
        self.check("a ? b b", 2)
        self.check("a & ?", 4)
        self.check("( ? )", 2)
        self.check("a ) 1", 2)
        self.check("exists h ?", 9)
        self.check("exists h h ?", 9)

    def test_every_position_against_the_grammar(self):
        chooser = generator(5)
        kinds = SIGNS + WORDS + ("name",) * 12 + ("(",) * 3
        tried = 0
        while tried < 6000:
            chosen = [chooser.choice(kinds) for _ in range(chooser.randint(0, 7))]
            if chooser.random() < 0.3:
                chosen = ["exists", "name"] + chooser.choice(([":"], [",", "name", ":"], [","])) + chosen
            text, positions = "", []
            for number, kind in enumerate(chosen):
                text += " " * chooser.choice((1, 2))
                positions.append(len(text))
                text += "n" + str(number) if kind == "name" else kind
            wrong = first_wrong(chosen)
            if wrong is None:
                continue
            tried += 1
            expected = positions[wrong] if wrong < len(positions) else len(text)
            self.check_quietly(text, expected)

    def check_quietly(self, text, position):
        with self.assertRaises(FormulaSyntaxError, msg=text) as caught:
            parse_property(text, [])
        self.assertEqual(caught.exception.position, position, text)


class NameTest(unittest.TestCase):
    def check(self, error, text, name, names=tuple(NAMES)):
        with self.subTest(text):
            with self.assertRaises(error) as caught:
                parse_property(text, list(names))
            self.assertEqual(caught.exception.name, name)

    def test_duplicates(self):
        self.check(DuplicateSignal, "exists a: a", "a")
        self.check(DuplicateSignal, "exists h, c: a", "c")
        self.check(DuplicateSignal, "forall h, h: a", "h")
        self.check(DuplicateSignal, "forall h, k, k, h: a", "k")
        self.check(DuplicateSignal, "forall h, k, h, k: a", "h")
        self.check(DuplicateSignal, "forall h, h, a: a", "h")
        self.check(DuplicateSignal, "forall h, b, h, a: a", "b")

    def test_unknown_names(self):
        self.check(UnknownSignal, "d", "d")
        self.check(UnknownSignal, "a & (d2 U e) & d1", "d2")
        self.check(UnknownSignal, "(a & d) -> e", "d")
        self.check(UnknownSignal, "exists h: h & ab & e", "ab")
        self.check(UnknownSignal, "a", "a", ())
        self.check(UnknownSignal, "G(e -> X d)", "e")

    def test_which_error_comes_first(self):
        self.check(DuplicateSignal, "exists a: d", "a")
        self.check(DuplicateSignal, "exists h, k, l, m, h: a", "h")
        self.check(UnknownSignal, "exists h, k, l, m: d", "d")
        self.check(UnknownSignal, "X" * 9 + "d", "d")
        self.check(UnknownSignal, "a" + " <-> a" * 7 + " & d", "d")
        self.check(UnknownSignal, "!" * 150 + "d", "d")
        with self.assertRaises(FormulaSyntaxError):
            parse_property("exists a, a: d )", NAMES)
        with self.assertRaises(FormulaSyntaxError):
            parse_property("X" * 9 + "d d", NAMES)


class BoundTest(unittest.TestCase):
    def fits(self, text):
        with self.subTest(text):
            parse_property(text, NAMES)

    def too_large(self, text):
        with self.subTest(text):
            with self.assertRaises(TooLarge):
                parse_property(text, NAMES)

    def test_characters(self):
        self.fits("a" + " " * 199)
        self.too_large("a" + " " * 200)
        self.too_large("?" * 201)
        self.too_large(" " * 201)
        with self.assertRaises(FormulaSyntaxError):
            parse_property(" " * 200, NAMES)

    def test_parentheses(self):
        self.fits("(" * 20 + "a" + ")" * 20)
        self.too_large("(" * 21 + "a" + ")" * 21)
        self.fits("(a)" + "&(a)" * 19)
        self.too_large("(a)" + "&(a)" * 20)
        self.too_large("(" * 21)
        with self.assertRaises(FormulaSyntaxError):
            parse_property("(" * 20, NAMES)
        with self.assertRaises(FormulaSyntaxError):
            parse_property("a" + ")" * 30, NAMES)

    def test_hidden_names(self):
        self.fits("exists h, k, l: a")
        self.too_large("exists h, k, l, m: a")
        self.too_large("forall h, k, l, m, n: a")

    def test_depth(self):
        self.fits("!" * 99 + "a")
        self.too_large("!" * 100 + "a")
        self.too_large("!" * 199 + "a")
        self.fits("a" + "&a" * 99)
        self.too_large("b&" + "!" * 99 + "a")
        self.fits("b&" + "!" * 98 + "a")
        self.fits("!" * 98 + "a&b")
        self.too_large("!" * 99 + "a&b")
        self.fits("!" * 97 + "(a->a)")
        self.fits("!" * 98 + "true|a")
        self.too_large("exists h: " + "!" * 100 + "true")

    def test_temporal_operators(self):
        for sign in "XFGYZOH":
            self.fits(sign * 8 + "a")
            self.too_large(sign * 9 + "a")
        for sign in "URST":
            self.fits("a" + (" " + sign + " a") * 8)
            self.too_large("a" + (" " + sign + " a") * 9)
        self.fits("XFGYZOHa & (a U b)")
        self.too_large("XFGYZOHa & (a U b) & (a W b)")
        self.fits("Xa&Xa&Xa&Xa&Xa&Xa&Xa&Xa")
        self.too_large("Xa&Xa&Xa&Xa&Xa&Xa&Xa&Xa&Xa")

    def test_operators_that_double(self):
        self.fits("a" + "<->a" * 6)
        self.too_large("a" + "<->a" * 7)
        self.fits("a" + " W a" * 6)
        self.too_large("a" + " W a" * 7)
        self.fits("a W a W a W a <-> a <-> a <-> a")
        self.too_large("a W a W a W a <-> a <-> a <-> a <-> a")
        self.fits("a" + "->a" * 20 + "&a" * 20)


if __name__ == "__main__":
    unittest.main()
