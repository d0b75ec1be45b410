"""Points 47 and 48 and the interface of reactivesynth/expressions.py."""

import unittest

from reactivesynth.buchi import Automaton, accepts
from reactivesynth.comparison import equivalent
from reactivesynth.errors import InvalidLetter, TooLarge
from reactivesynth.expressions import automaton_expression, contains, expression_automaton, matches
from reactivesynth.words import make_lasso
from tests.oracles import slow_contains, slow_matches
from tests.samples import automaton_parts, generator, lassos, random_automaton, random_lasso, words

NONE, EMPTY = ("none",), ("empty",)
A, B, C = ("letter", 0), ("letter", 1), ("letter", 2)
ANY = ("star", ("either", A, B))
PLAIN = (NONE, EMPTY, A, B)


def layered(parts):
    """Return all expressions that consist of a sign and of these parts."""
    found = [("star", part) for part in parts]
    for kind in ("join", "either"):
        found.extend((kind, first, second) for first in parts for second in parts)
    return found


def random_expression(chooser, letters, size):
    if size <= 0:
        return chooser.choice((NONE, EMPTY) + tuple(("letter", letter) for letter in range(letters)) * 3)
    kind = chooser.choice(("join", "join", "either", "either", "star"))
    if kind == "star":
        return kind, random_expression(chooser, letters, size - 1)
    left = chooser.randint(0, size - 1)
    return kind, random_expression(chooser, letters, left), random_expression(chooser, letters, size - 1 - left)


def random_pairs(chooser, letters, count, size):
    return tuple((random_expression(chooser, letters, chooser.randint(0, size)),
                  random_expression(chooser, letters, chooser.randint(0, size))) for _ in range(count))


def letter_count(expression):
    if expression[0] == "letter":
        return 1
    return sum(letter_count(part) for part in expression[1:])


def depth(expression):
    if expression[0] in ("none", "empty", "letter"):
        return 1
    return 1 + max(depth(part) for part in expression[1:])


def is_expression(expression, letters):
    """Return True if something is an expression over the letters below a number."""
    if type(expression) is not tuple or len(expression) == 0:
        return False
    if expression in (NONE, EMPTY):
        return True
    if expression[0] == "letter":
        return len(expression) == 2 and type(expression[1]) is int and 0 <= expression[1] < letters
    return len(expression) == {"join": 3, "either": 3, "star": 2}.get(expression[0]) \
        and all(is_expression(part, letters) for part in expression[1:])


class MatchesTest(unittest.TestCase):
    def test_known_words(self):
        for expression, rows in (
                (NONE, {(): False, (0,): False}), (EMPTY, {(): True, (0,): False}),
                (A, {(): False, (0,): True, (1,): False, (0, 0): False}), (("letter", 7), {(7,): True, (0,): False}),
                (("join", A, B), {(0, 1): True, (1, 0): False, (0,): False, (0, 1, 0): False}),
                (("either", A, B), {(0,): True, (1,): True, (): False, (0, 1): False}),
                (("star", A), {(): True, (0,): True, (0,) * 50: True, (0, 1): False}),
                (("star", NONE), {(): True, (0,): False}), (("star", EMPTY), {(): True, (0,): False}),
                (("join", NONE, ("star", A)), {(): False, (0,): False}),
                (("join", ("star", A), ("star", B)), {(): True, (0, 0, 1): True, (1, 0): False}),
                (("star", ("join", A, ("star", B))), {(): True, (0, 1, 1, 0): True, (1,): False})):
            for word, expected in rows.items():
                self.assertIs(matches(expression, list(word)), expected, (expression, word))

    def test_every_kind_within_every_other_one(self):
        inner = list(PLAIN) + [expression for expression in layered(PLAIN[1:3]) if expression != EMPTY]
        some = words(2, 4)
        for expression in layered(inner):
            for word in some:
                self.assertIs(matches(expression, list(word)), slow_matches(expression, word), (expression, word))

    def test_random_expressions(self):
        chooser = generator(400)
        for _ in range(400):
            expression = random_expression(chooser, 2, chooser.randint(0, 9))
            for word in words(2, 4):
                self.assertIs(matches(expression, list(word)), slow_matches(expression, word), (expression, word))

    def test_stars_of_stars(self):
        expression = ("join", A, B)
        for _ in range(98):
            expression = ("star", expression)
            self.assertTrue(matches(expression, [0, 1, 0, 1]))
            self.assertTrue(matches(expression, []))
            self.assertFalse(matches(expression, [0, 1, 1]))

    def test_deep_expressions(self):
        for kind, length in (("join", 100), ("either", 1)):
            left = right = A
            for _ in range(99):
                left, right = (kind, left, A), (kind, A, right)
            for expression in (left, right):
                self.assertTrue(matches(expression, [0] * length))
                self.assertFalse(matches(expression, [0] * (length + 1)))
                self.assertFalse(matches(expression, [0] * (length - 1) + [1]))

    def test_letters_of_any_size(self):
        great = 10 ** 30
        self.assertTrue(matches(("star", ("letter", great)), [great] * 3))
        self.assertFalse(matches(("star", ("letter", great)), [great, great + 1]))

    def test_arguments_stay(self):
        word = [0, 1, 0]
        matches(("star", ("either", A, B)), word)
        self.assertEqual(word, [0, 1, 0])


class ContainsTest(unittest.TestCase):
    def test_example(self):
        pairs = ((ANY, ("join", B, ("star", A))),)
        self.assertEqual((contains(pairs, ((0, 0), (1, 0))), contains(pairs, ((1, 1), (0,)))), (True, False))

    def test_known_words(self):
        for pairs, rows in (
                ((), {((), (0,)): False, ((1,), (0, 1)): False}),
                (((EMPTY, A),), {((), (0,)): True, ((), (0, 0)): True, ((1,), (0,)): False}),
                (((A, B),), {((0,), (1,)): True, ((), (1,)): False, ((0, 1), (1, 1)): True}),
                (((NONE, A),), {((), (0,)): False}), (((EMPTY, NONE),), {((), (0,)): False}),
                (((EMPTY, EMPTY),), {((), (0,)): False}), (((EMPTY, ("star", EMPTY)),), {((), (0,)): False}),
                (((EMPTY, ("star", A)),), {((), (0,)): True, ((), (0, 1)): False}),
                (((EMPTY, ("either", EMPTY, ("join", A, B))),), {((), (0, 1)): True, ((), (1, 0)): False}),
                (((ANY, A), (EMPTY, B)), {((1, 0, 1), (0,)): True, ((), (1,)): True, ((), (0, 1)): False}),
                (((EMPTY, ("join", A, ("join", A, A))),), {((), (0,)): True, ((0,), (0, 0)): True}),
                (((("star", ("join", A, A)), B),), {((0, 0), (1,)): True, ((0,), (1,)): False, ((), (1,)): True})):
            for lasso, expected in rows.items():
                self.assertIs(contains(pairs, lasso), expected, (pairs, lasso))

    def test_every_kind_within_every_other_one(self):
        inner = [NONE, EMPTY, B, ("star", A), ("join", A, B), ("either", EMPTY, A), ("star", ("join", B, A))]
        some = [((), (0,)), ((), (1,)), ((), (0, 1)), ((1,), (0,)), ((0, 1), (1, 0, 0))]
        for expression in inner + layered(inner):
            for pairs in (((EMPTY, expression),), ((expression, A),), ((expression, ("join", A, B)), (B, expression))):
                for lasso in some:
                    self.assertIs(contains(pairs, lasso), slow_contains(pairs, lasso, 9), (pairs, lasso))

    def test_random_expressions(self):
        chooser = generator(401)
        found = []
        for _ in range(300):
            pairs = random_pairs(chooser, 2, chooser.randint(0, 2), 5)
            for _ in range(4):
                lasso = random_lasso(chooser, 2, 2, 2)
                found.append(contains(pairs, lasso))
                self.assertIs(found[-1], slow_contains(pairs, lasso, 12), (pairs, lasso))
                self.assertIs(contains(pairs, make_lasso(*lasso)), found[-1])
        self.assertGreater(found.count(True), 100)

    def test_letters_of_any_size(self):
        great = 10 ** 30
        pairs = ((("letter", great), ("letter", great + 5)),)
        self.assertTrue(contains(pairs, ((great,), (great + 5,))))
        self.assertFalse(contains(pairs, ((great,), (great + 5, great))))
        self.assertFalse(contains(((EMPTY, A),), ((), (great,))))

    def test_letters_that_no_expression_has(self):
        self.assertFalse(contains(((ANY, A),), ((5,), (0,))))
        self.assertFalse(contains((), ((5,), (7,))))


class ExpressionAutomatonTest(unittest.TestCase):
    def check(self, pairs, letters, some):
        automaton = expression_automaton(pairs, letters)
        self.assertIsInstance(automaton, Automaton)
        self.assertEqual(automaton.letters, letters)
        most = sum(1 + letter_count(first) + 2 * letter_count(second) for first, second in pairs) if pairs else 1
        self.assertLessEqual(len(automaton.rows), most)
        for lasso in some:
            self.assertIs(accepts(automaton, lasso), contains(pairs, lasso), (pairs, lasso))
        return automaton

    def test_without_pairs(self):
        for letters in (1, 2, 5):
            automaton = self.check((), letters, lassos(letters, 1, 1))
            self.assertEqual(len(automaton.rows), 1)

    def test_known_automata(self):
        some = lassos(2, 2, 3)
        for pairs in (((ANY, ("join", B, ("star", A))),), ((NONE, A),), ((EMPTY, EMPTY),),
                      ((EMPTY, NONE), (NONE, EMPTY)), ((EMPTY, A), (EMPTY, B)), ((ANY, A), (ANY, B)), ((A, ("star", ("star", B))),),
                      ((EMPTY, ("either", ("join", A, A), B)),), ((ANY, ANY),)):
            self.check(pairs, 2, some)
            self.check(pairs, 3, lassos(3, 1, 2))

    def test_random_expressions(self):
        chooser = generator(402)
        some = lassos(2, 2, 3)
        for _ in range(120):
            self.check(random_pairs(chooser, 2, chooser.randint(0, 3), 6), 2, some)
        for _ in range(40):
            letters = chooser.randint(3, 4)
            self.check(random_pairs(chooser, letters, chooser.randint(1, 3), 6), letters, lassos(letters, 1, 2))

    def test_one_letter(self):
        for pairs in (((EMPTY, A),), ((A, ("star", A)),), ((NONE, A),)):
            self.check(pairs, 1, lassos(1, 1, 2))

    def test_invalid_letters(self):
        for expression in (C, ("star", C), ("join", A, ("letter", 3)), ("either", ("letter", 10 ** 20), A),
                           ("join", NONE, C), ("star", ("star", ("either", NONE, C))), ("letter", -1)):
            for pairs in (((expression, A),), ((A, expression),), ((A, B), (expression, A)),
                          ((A, B), (NONE, expression))):
                with self.assertRaises(InvalidLetter):
                    expression_automaton(pairs, 2)
        self.check(((("join", NONE, C), C),), 3, lassos(3, 1, 1))
        with self.assertRaises(InvalidLetter):
            expression_automaton(((B, EMPTY),), 1)

    def test_equal_results(self):
        pairs = ((ANY, ("join", B, ("star", A))), (A, B))
        first, second = expression_automaton(pairs, 2), expression_automaton(pairs, 2)
        self.assertEqual(automaton_parts(first), automaton_parts(second))


class AutomatonExpressionTest(unittest.TestCase):
    def check(self, automaton, some):
        pairs = automaton_expression(automaton)
        self.assertIs(type(pairs), tuple)
        self.assertLessEqual(len(pairs), len(automaton.initial) * len(automaton.accepting))
        for pair in pairs:
            self.assertIs(type(pair), tuple)
            self.assertEqual(len(pair), 2)
            for expression in pair:
                self.assertTrue(is_expression(expression, automaton.letters))
                self.assertLessEqual(depth(expression), 100)
        for lasso in some:
            self.assertIs(contains(pairs, lasso), accepts(automaton, lasso), lasso)
        self.assertIsNone(equivalent(expression_automaton(pairs, automaton.letters), automaton))
        return pairs

    def test_known_automata(self):
        some = lassos(2, 2, 2)
        self.assertEqual(self.check(Automaton(2, [], [0], [[[0], [0]]]), some), ())
        self.assertEqual(self.check(Automaton(2, [0], [], [[[0], [0]]]), some), ())
        self.check(Automaton(2, [0], [0], [[[], []]]), some)
        self.check(Automaton(2, [0], [0], [[[0], [0]]]), some)
        self.check(Automaton(2, [0], [0], [[[0], []]]), some)
        self.check(Automaton(2, [0], [1], [[[0], [0, 1]], [[1], []]]), some)
        self.check(Automaton(2, [0, 1], [0, 1], [[[1], []], [[], [0]]]), some)
        self.check(Automaton(2, [0, 1, 2], [0, 1, 2], [[[1], [2]], [[2], [0]], [[0], [1]]]), some)
        self.check(Automaton(1, [1], [0], [[[0]], [[0]]]), lassos(1, 1, 1))

    def test_random_automata(self):
        chooser = generator(403)
        for _ in range(120):
            letters = chooser.randint(1, 4)
            automaton = random_automaton(chooser, chooser.randint(1, 3), letters)
            self.check(automaton, lassos(letters, 2, 2) if letters < 3 else lassos(letters, 1, 1))

    def test_all_moves(self):
        full = [[0, 1, 2]] * 4
        for accepting in ([0], [2], [0, 1, 2], []):
            self.check(Automaton(4, [0, 1, 2], accepting, [full, full, full]), lassos(4, 1, 1))
            self.check(Automaton(4, [1], accepting, [full, full, full]), lassos(4, 1, 1))

    def test_there_and_back(self):
        chooser = generator(404)
        for _ in range(60):
            automaton = random_automaton(chooser, 2, 2)
            again = expression_automaton(automaton_expression(automaton), 2)
            for lasso in lassos(2, 2, 3):
                self.assertIs(accepts(again, lasso), accepts(automaton, lasso))

    def test_too_large(self):
        for states, letters in ((4, 1), (3, 5), (4, 4), (1, 5), (5, 5), (10, 1)):
            with self.assertRaises(TooLarge):
                automaton_expression(Automaton(letters, [0], [0], [[[0]] * letters] * states))
        self.check(Automaton(4, [0], [0], [[[0]] * 4] * 3), lassos(4, 1, 1))
        # What counts is the automaton itself, not how many of its states matter.
        with self.assertRaises(TooLarge):
            automaton_expression(Automaton(1, [], [], [[[]]] * 4))


if __name__ == "__main__":
    unittest.main()
