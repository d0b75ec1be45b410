"""Points 10 and 11 and the interface of reactivesynth/truth.py."""

import unittest

from reactivesynth.errors import InvalidLetter, InvalidTurn
from reactivesynth.formulas import normal_form
from reactivesynth.parsing import parse_property
from reactivesynth.truth import holds, truth_word
from reactivesynth.words import make_lasso
from tests.oracles import Evaluator, truth_at
from tests.samples import BINARY, UNARY, generator, lassos, random_formula, random_lasso, unrolled

A = ("signal", "a")
B = ("signal", "b")


def at_turns(formula, names, lasso, turns):
    """Return the truth at the first turns as a string of digits."""
    return "".join("1" if holds(formula, names, lasso, turn=turn) else "0" for turn in range(turns))


class OperatorTest(unittest.TestCase):
    # In these words a is true at the turns with 1 or 3, b at those with 2 or 3.
    def check(self, text, lasso, expected):
        with self.subTest(text=text, lasso=lasso):
            formula = parse_property(text, ["a", "b"])
            self.assertEqual(at_turns(formula, ["a", "b"], lasso, len(expected)), expected)
            word = truth_word(formula, ["a", "b"], lasso)
            self.assertEqual("".join(str(letter) for letter in unrolled(word, len(expected))), expected)

    def test_examples(self):
        self.assertEqual(truth_word(("once", ("signal", "a")), ["a"], ((0, 0), (1, 0))), ((0, 0), (1,)))
        self.assertIs(holds(("always", ("eventually", ("signal", "a"))), ["a"], ((1, 1), (0,))), False)

    def test_without_time(self):
        lasso = ((0, 1, 2, 3), (0, 1))
        self.check("true", lasso, "11111111")
        self.check("false", lasso, "00000000")
        self.check("a", lasso, "01010101")
        self.check("b", lasso, "00110000")
        self.check("!a", lasso, "10101010")
        self.check("a & b", lasso, "00010000")
        self.check("a | b", lasso, "01110101")
        self.check("a -> b", lasso, "10111010")
        self.check("a <-> b", lasso, "10011010")

    def test_future_with_a_head(self):
        lasso = ((0, 1, 1, 2, 0), (0, 1, 3))
        self.check("X a", lasso, "110001101101")
        self.check("F b", lasso, "111111111111")
        self.check("F(a & !b)", lasso, "111111111111")
        self.check("G(a | b)", lasso, "000000000000")
        self.check("a U b", lasso, "011100110110")
        self.check("a W b", lasso, "011100110110")
        self.check("b R a", lasso, "000000110110")

    def test_future_that_ends(self):
        lasso = ((2, 0, 1, 2, 0, 1), (1,))
        self.check("F b", lasso, "1111000000")
        self.check("G a", lasso, "0000011111")
        self.check("a U b", lasso, "1011000000")
        self.check("a W b", lasso, "1011011111")
        self.check("b R a", lasso, "0000011111")
        self.check("b R !b", lasso, "0000111111")
        self.check("X G a", lasso, "0000111111")

    def test_past_with_a_head(self):
        lasso = ((0, 1, 0), (2, 0, 1, 1))
        self.check("Y a", lasso, "00100011001100")
        self.check("Z a", lasso, "10100011001100")
        self.check("O a", lasso, "01111111111111")
        self.check("O b", lasso, "00011111111111")
        self.check("H !b", lasso, "11100000000000")
        self.check("H !a", lasso, "10000000000000")
        self.check("!a S b", lasso, "00011001100110")
        self.check("a T !b", lasso, "11100110011001")
        self.check("b T !b", lasso, "11100000000000")

    def test_past_with_an_empty_head(self):
        lasso = ((), (1, 2, 0))
        self.check("Y a", lasso, "010010010")
        self.check("Z a", lasso, "110010010")
        self.check("O b", lasso, "011111111")
        self.check("H a", lasso, "100000000")
        self.check("!b S a", lasso, "100100100")
        self.check("b S a", lasso, "110110110")
        self.check("b T !a", lasso, "011011011")
        self.check("b T !b", lasso, "100000000")

    def test_past_at_turn_0(self):
        for letter in range(4):
            lasso = ((letter,), (0,))
            a, b = letter & 1 == 1, letter & 2 == 2
            for text, expected in (("Y a", False), ("Y true", False), ("Z a", True), ("Z false", True), ("O a", a),
                                   ("H a", a), ("a S b", b), ("a T b", b), ("Y Z a", False), ("Z Y a", True)):
                with self.subTest(text=text, letter=letter):
                    self.assertIs(holds(parse_property(text, ["a", "b"]), ["a", "b"], lasso), expected)

    def test_past_and_future_within_one_another(self):
        self.check("G(b -> O a)", ((0, 1), (2, 0)), "11111111")
        self.check("G(b -> O a)", ((2, 1), (2, 0)), "01111111")
        self.check("F(a & Y b)", ((2, 1), (0,)), "11000000")
        self.check("O X b", ((0, 0, 2), (0,)), "01111111")
        self.check("Y Y Y a", ((1,), (0,)), "00010000")
        self.check("H F a", ((0, 1), (0,)), "11000000")
        self.check("Y Y a", ((), (1, 0, 0)), "0010010010")

    def test_the_past_takes_many_rounds_to_settle(self):
        formula = A
        for _ in range(8):
            formula = ("previous", formula)
        self.assertEqual(truth_word(formula, ["a"], ((1,), (0,))), ((0,) * 8 + (1,), (0,)))
        self.assertEqual(truth_word(formula, ["a"], ((), (1,))), ((0,) * 8, (1,)))


class HoldsTest(unittest.TestCase):
    def test_each_operator_against_the_definitions(self):
        formulas = [(kind, A) for kind in UNARY] + [(kind, A, B) for kind in BINARY]
        chooser = generator(7)
        some = lassos(4, 1, 2) + [random_lasso(chooser, 4, 5, 4) for _ in range(60)]
        for formula in formulas:
            for lasso in some:
                evaluator = Evaluator(["a", "b"], lasso)
                word = truth_word(formula, ["a", "b"], lasso)
                self.assertEqual(word, make_lasso(*word))
                turns = 14
                expected = [evaluator.truth(formula, turn) for turn in range(turns)]
                self.assertEqual(unrolled(word, turns), [int(value) for value in expected])
                self.assertEqual(at_turns(formula, ["a", "b"], lasso, turns),
                                 "".join(str(int(value)) for value in expected))

    def test_random_formulas_against_the_definitions(self):
        chooser = generator(8)
        names = ["a", "b"]
        for _ in range(300):
            formula = random_formula(chooser, names, chooser.randint(1, 7))
            lasso = random_lasso(chooser, 4, 3, 3)
            evaluator = Evaluator(names, lasso)
            word = truth_word(formula, names, lasso)
            self.assertEqual(word, make_lasso(*word))
            for turn, letter in enumerate(unrolled(word, 20)):
                self.assertEqual(letter == 1, evaluator.truth(formula, turn), (formula, lasso, turn))
                self.assertIs(holds(formula, names, lasso, turn=turn), letter == 1)

    def test_normal_form_is_true_at_the_same_turns(self):
        chooser = generator(9)
        for _ in range(300):
            formula = random_formula(chooser, ["a", "b"], chooser.randint(1, 7))
            lasso = random_lasso(chooser, 4, 3, 4)
            word = truth_word(formula, ["a", "b"], lasso)
            self.assertEqual(truth_word(normal_form(formula), ["a", "b"], lasso), word)
            self.assertEqual(truth_word(normal_form(("not", formula)), ["a", "b"], lasso),
                             truth_word(("not", formula), ["a", "b"], lasso))

    def test_turns_far_beyond(self):
        names = ["a"]
        for turn in (999, 1000):
            self.assertIs(holds(A, names, ((0, 0, 0), (1, 0)), turn=turn), turn % 2 == 1)
            self.assertIs(holds(("next", A), names, ((0, 0, 0), (1, 0)), turn=turn), turn % 2 == 0)
            self.assertIs(holds(("historically", A), names, ((), (1,)), turn=turn), True)
            self.assertIs(holds(("once", A), names, ((0,) * 20, (0,) * 20), turn=turn), False)
        late = ((0,) * 1000 + (1,), (0,))
        self.assertIs(holds(A, names, late, turn=1000), True)
        self.assertIs(holds(A, names, late, turn=999), False)
        self.assertIs(holds(("previous", A), names, late, turn=1000), False)
        self.assertIs(holds(("eventually", A), names, late, turn=1000), True)

    def test_signals_by_their_place_in_the_list(self):
        names = ["f", "e", "d", "c", "b", "a"]
        for place, name in enumerate(names):
            self.assertEqual(truth_word(("signal", name), names, ((2 ** place, 63), (63 - 2 ** place,))),
                             ((1, 1), (0,)))
        self.assertIs(holds(("signal", "d"), tuple(names), ((4,), (0,))), True)

    def test_no_signals(self):
        self.assertEqual(truth_word(("previous", ("true",)), [], ((), (0,))), ((0,), (1,)))
        self.assertIs(holds(("not", ("true",)), [], ((0,), (0,))), False)

    def test_deep_formula(self):
        formula = A
        for _ in range(99):
            formula = ("not", formula)
        self.assertIs(holds(formula, ["a"], ((0,), (1,))), True)

    def test_lassos_in_any_form(self):
        formula = ("since", A, B)
        for lasso in (((), (1, 2, 0)), ((1, 2, 0), (1, 2, 0)), ((1,), (2, 0, 1, 2, 0, 1))):
            self.assertEqual(truth_word(formula, ["a", "b"], lasso), ((), (0, 1, 0)))

    def test_arguments_stay(self):
        names = ["a"]
        holds(("exists", ("h",), ("iff", A, ("signal", "h"))), names, ((0,), (1,)))
        truth_word(A, names, ((0,), (1,)))
        self.assertEqual(names, ["a"])


class ErrorTest(unittest.TestCase):
    def test_letter_too_large(self):
        quantified = ("exists", ("h",), ("signal", "h"))
        for names, lasso in (([], ((1,), (0,))), ([], ((), (1,))), (["a"], ((2,), (0,))), (["a"], ((0, 2, 0), (1,))),
                             (["a", "b"], ((3,), (3, 4))), (["a", "b"], ((), (4, 0)))):
            with self.subTest(names=names, lasso=lasso):
                for prop in (("true",), quantified):
                    with self.assertRaises(InvalidLetter):
                        holds(prop, names, lasso)
                with self.assertRaises(InvalidLetter):
                    truth_word(("true",), names, lasso)

    def test_greatest_letter(self):
        self.assertIs(holds(B, ["a", "b"], ((3,), (3,)), turn=1), True)

    def test_negative_turn(self):
        for turn in (-1, -1000):
            for prop in (A, ("forall", ("h",), A)):
                with self.assertRaises(InvalidTurn):
                    holds(prop, ["a"], ((0,), (1,)), turn=turn)

    def test_negative_turn_comes_first(self):
        for prop in (A, ("exists", ("h",), A)):
            with self.assertRaises(InvalidTurn):
                holds(prop, ["a"], ((9,), (9,)), turn=-1)


class HiddenTest(unittest.TestCase):
    def check(self, text, names, lasso, expected, turn=0):
        with self.subTest(text=text, lasso=lasso, turn=turn):
            self.assertIs(holds(parse_property(text, names), names, lasso, turn=turn), expected)

    def test_every_other_turn(self):
        text = "exists h: h & G(h <-> !Xh) & G(h -> a)"
        for lasso, expected in ((((), (1, 0)), True), (((), (1,)), True), (((0,), (1, 0)), False),
                                (((1,), (0, 1)), True), (((1, 0, 0, 1), (1,)), False), (((), (1, 0, 0)), False),
                                (((), (1, 1, 1, 0)), True)):
            self.check(text, ["a"], lasso, expected)

    def test_without_signals(self):
        self.check("exists h: G(h <-> !Xh)", [], ((), (0,)), True)
        self.check("exists h: h & !h", [], ((), (0,)), False)
        self.check("forall h: h | !h", [], ((), (0,)), True)
        self.check("forall h: F h", [], ((), (0,)), False)
        self.check("exists h, k: G(h <-> !k) & F(h & k)", [], ((), (0,)), False)
        self.check("exists h, k, l: F h & F k & F l & G !(h & k) & G !(k & l) & G !(h & l)", [], ((), (0,)), True)
        self.check("exists h, k, l: G(h & k) & F(l & !h)", [], ((), (0,)), False)

    def test_no_promise_is_put_off_for_ever(self):
        self.check("exists h: (h U a) & G h", ["a"], ((), (0,)), False)
        self.check("exists h: (h U a) & G h", ["a"], ((0,) * 9 + (1,), (0,)), True)
        self.check("exists h: F h & G !h", [], ((), (0,)), False)
        self.check("exists h: G F h & F G !h", [], ((), (0,)), False)
        self.check("forall h: (G h) | F !h", [], ((), (0,)), True)
        self.check("exists h: !(G h) & !(F !h)", [], ((), (0,)), False)
        self.check("exists h: !(a R h) & G h", ["a"], ((), (0,)), False)
        self.check("exists h: !(h W a) & G h", ["a"], ((), (0,)), False)
        self.check("exists h: (h W a) & G h & !F a", ["a"], ((), (0,)), True)
        self.check("exists h: (h W a) & !(h U a)", ["a"], ((0,), (0,)), True)

    def test_hidden_signals_that_are_not_used(self):
        for lasso in lassos(2, 2, 2):
            for turn in range(4):
                evaluator = Evaluator(["a"], lasso)
                expected = evaluator.truth(("until", A, ("previous", A)), turn)
                self.check("exists h: a U Y a", ["a"], lasso, expected, turn)
                self.check("forall h, k: a U Y a", ["a"], lasso, expected, turn)
                self.check("exists h, k, l: a U Y a", ["a"], lasso, expected, turn)

    def test_hidden_signals_follow_the_list(self):
        self.check("exists h: G(h <-> b) & F(h & !a)", ["a", "b"], ((), (1, 2)), True)
        self.check("exists h: G(h <-> b) & F(h & !a)", ["a", "b"], ((), (1, 3)), False)
        self.check("exists a: G(a <-> b)", ["b"], ((), (1, 0)), True)

    def test_turns_above_0(self):
        # The hidden signal is the same before the turn in question, so h tells how long ago a was.
        text = "exists h: Y(!h & H !h) & h & H(h -> a)"
        self.check(text, ["a"], ((0, 0, 1), (0,)), False, 0)
        self.check(text, ["a"], ((0, 0, 1), (0,)), False, 1)
        self.check(text, ["a"], ((0, 0, 1), (0,)), True, 2)
        self.check(text, ["a"], ((0, 0, 1), (0,)), False, 3)
        self.check(text, ["a"], ((1, 0, 1), (0,)), False, 0)

    def test_turns_far_beyond(self):
        text = "exists h: H(Y true -> (h <-> !Y h)) & H(!Y true -> h) & h & a"
        self.check(text, ["a"], ((), (1,)), True, 1000)
        self.check(text, ["a"], ((), (1,)), False, 999)
        self.check(text, ["a"], ((), (0, 1)), False, 999)
        self.check("forall h: O h -> O(h & a)", ["a"], ((), (1,)), True, 1000)
        self.check("forall h: O h -> O(h & a)", ["a"], ((1,) * 1000 + (0,), (1,)), False, 1000)
        self.check("forall h: O h -> O(h & a)", ["a"], ((1,) * 1000 + (0,), (1,)), True, 999)

    def test_hidden_signal_that_is_another_formula(self):
        # If a hidden signal has the truth of a formula at every turn, then it
        # may stand in its place.
        chooser = generator(10)
        names = ["a", "b"]
        for _ in range(150):
            meaning = random_formula(chooser, names, chooser.randint(0, 2))
            outer = random_formula(chooser, names + ["h"], chooser.randint(1, 4))
            lasso = random_lasso(chooser, 4, 3, 3)
            same = ("iff", ("signal", "h"), meaning)
            everywhere = ("and", ("always", same), ("historically", same))
            evaluator = Evaluator(names, lasso)
            for turn in (0, 1, 2, 3, 7):
                expected = evaluator.truth(put(outer, meaning), turn)
                for prop in (("exists", ("h",), ("and", everywhere, outer)),
                             ("forall", ("h",), ("implies", everywhere, outer))):
                    self.assertIs(holds(prop, names, lasso, turn=turn), expected, (prop, lasso, turn))

    def test_order_of_the_turns(self):
        # A hidden signal repeats a, and shows what stands before and after a turn.
        chooser = generator(13)
        later = "exists h: G(h <-> a) & %s & X(%s & X(%s & X(%s & X %s)))"
        earlier = "exists h: H(h <-> a) & %s & Y(%s & Y(%s & Y(%s & Y %s)))"
        for _ in range(60):
            lasso = random_lasso(chooser, 2, 4, 6)
            letters = unrolled(lasso, 60)
            for turn in (0, 1, 4, 5, 6, 7, 8, 11, 30):
                shown = letters[turn:turn + 5]
                before = letters[turn - 4:turn + 1][::-1] if turn >= 4 else [1, 1, 1, 1, 1]
                wrong = list(shown)
                wrong[chooser.randrange(5)] ^= 1
                for text, row, expected in ((later, shown, True), (later, wrong, False), (earlier, before, turn >= 4)):
                    signs = tuple("h" if letter else "!h" for letter in row)
                    self.check(text % signs, ["a"], lasso, expected, turn)

    def test_against_short_values_of_the_hidden_signals(self):
        # What short values show is true; and the converse for these simple formulas.
        chooser = generator(11)
        values = lassos(2, 1, 3)
        for _ in range(120):
            formula = random_formula(chooser, ["a", "h"], chooser.randint(1, 3))
            lasso = random_lasso(chooser, 2, 1, 2)
            for turn in (0, 1, 3):
                shown = {truth_at(formula, ["a", "h"], joined(lasso, value), turn) for value in values}
                found = holds(("exists", ("h",), formula), ["a"], lasso, turn=turn)
                self.assertTrue(found or True not in shown)
                every = holds(("forall", ("h",), formula), ["a"], lasso, turn=turn)
                self.assertTrue(not every or False not in shown)
                self.assertEqual((found, every), (True in shown, False not in shown), (formula, lasso, turn))

    def test_two_and_three_hidden_signals(self):
        chooser = generator(12)
        values = lassos(4, 0, 2) + lassos(4, 1, 1)
        for _ in range(60):
            formula = random_formula(chooser, ["a", "h", "k"], chooser.randint(1, 3))
            lasso = random_lasso(chooser, 2, 1, 1)
            shown = {truth_at(formula, ["a", "h", "k"], joined(lasso, value), 1) for value in values}
            if True in shown:
                self.assertIs(holds(("exists", ("h", "k"), formula), ["a"], lasso, turn=1), True)
            if False in shown:
                self.assertIs(holds(("forall", ("h", "k"), formula), ["a"], lasso, turn=1), False)
            # A third one that is the same as the second changes nothing.
            linked = ("and", ("and", ("always", LINK), ("historically", LINK)), formula)
            self.assertEqual(holds(("exists", ("h", "k", "l"), linked), ["a"], lasso, turn=1),
                             holds(("exists", ("h", "k"), formula), ["a"], lasso, turn=1))

    def test_large_property(self):
        names = ["a", "b"]
        text = ("exists h, i, j: G(F h & (i U (h S j)) & (O(a & h) -> ((F (i & b)) W (H(j | !h)))))")
        self.assertIs(holds(parse_property(text, names), names, ((0, 1, 2, 3) * 3, (1, 2, 0, 3) * 4 + (1,)),
                            turn=1000), True)


LINK = ("iff", ("signal", "l"), ("signal", "k"))


def put(formula, meaning):
    """Return the formula with another one in the place of the signal h."""
    if formula == ("signal", "h"):
        return meaning
    if formula[0] == "signal":
        return formula
    return (formula[0],) + tuple(put(part, meaning) for part in formula[1:])


def joined(lasso, value):
    """Return a lasso over one signal and the hidden ones, from one with their values."""
    start = max(len(lasso[0]), len(value[0]))
    turns = len(lasso[1]) * len(value[1])
    letters = [one + 2 * two for one, two in zip(unrolled(lasso, start + turns), unrolled(value, start + turns))]
    return tuple(letters[:start]), tuple(letters[start:])


if __name__ == "__main__":
    unittest.main()
