"""Points 45 and 46 and the interface of reactivesynth/congruence.py."""

import unittest

from reactivesynth.buchi import Automaton, accepts
from reactivesynth.congruence import exponent, separating_context
from reactivesynth.formulas import temporal_count
from reactivesynth.operations import trim
from reactivesynth.parsing import parse_property
from reactivesynth.translation import translate
from tests.samples import generator, random_automaton, random_formula, words

EVEN = Automaton(2, [0], [0], [[[1], []], [[0], [1]]])
EMPTY = (Automaton(2, [], [0], [[[0], [0]]]), Automaton(2, [0], [], [[[0], [0]]]), Automaton(2, [], [], [[[], []]]),
         Automaton(2, [0], [1], [[[0], [0]], [[1], [1]]]))


def made_word(context, word):
    """Return the lasso of the infinite word that a context makes of a finite word."""
    if context[0] == "linear":
        _, before, behind, ending = context
        return before + tuple(word) + behind, ending
    _, before, behind = context
    return before, tuple(word) + behind


def contexts(letters, longest):
    """Return all contexts of both kinds whose words have at most this length."""
    some = words(letters, longest)
    linear = [("linear", x, y, z) for x in some for y in some for z in some if z]
    return linear + [("circular", x, y) for x in some for y in some]


def lively_automaton(chooser, states, letters):
    """Return an automaton all of whose states are useful."""
    while True:
        automaton = random_automaton(chooser, states, letters)
        if len(automaton.initial) > 0 and len(trim(automaton).rows) == states:
            return automaton


def powers(word, count):
    return list(word) * count


class ContextTest(unittest.TestCase):
    def check_context(self, automaton, context, first, second):
        self.assertIs(type(context), tuple)
        self.assertEqual(len(context), {"linear": 4, "circular": 3}[context[0]])
        for part in context[1:]:
            self.assertIs(type(part), tuple)
            self.assertTrue(all(0 <= letter < automaton.letters for letter in part))
        if context[0] == "linear":
            self.assertGreater(len(context[3]), 0)
        self.assertNotEqual(accepts(automaton, made_word(context, first)),
                            accepts(automaton, made_word(context, second)))

    def check(self, automaton, first, second, tried):
        """Compare with what many contexts make of both words, in both orders; return True if they are congruent."""
        context = separating_context(automaton, list(first), list(second))
        other = separating_context(automaton, list(second), list(first))
        self.assertEqual(context is None, other is None)
        if context is not None:
            self.check_context(automaton, context, first, second)
            self.check_context(automaton, other, second, first)
            return False
        for one in tried:
            self.assertEqual(accepts(automaton, made_word(one, first)), accepts(automaton, made_word(one, second)), one)
        return True

    def test_an_even_number_of_zeros(self):
        tried = contexts(2, 2)
        for first in words(2, 3)[1:]:
            for second in words(2, 3)[1:]:
                # A 1 is read in state 1 alone; so what matters are the zeros, and from where a run can begin.
                self.check(EVEN, first, second, tried)
        self.assertTrue(self.check(EVEN, (0,), (0, 0, 0), tried))
        self.assertTrue(self.check(EVEN, (0, 1, 1, 0), (0, 1, 0), tried))
        self.assertFalse(self.check(EVEN, (0,), (0, 0), tried))
        self.assertFalse(self.check(EVEN, (1,), (0, 0), tried))

    def test_only_a_circular_context_tells(self):
        # Words with a 1 again and again: only in a loop does it matter whether a word has a 1.
        often = Automaton(2, [0], [1], [[[0], [1]], [[0], [1]]])
        self.assertFalse(self.check(often, (0,), (1,), []))
        self.assertEqual(separating_context(often, [0], [1])[0], "circular")
        self.assertTrue(self.check(often, (1,), (0, 1, 0, 0), contexts(2, 2)))
        self.assertTrue(self.check(often, (0,), (0, 0, 0), contexts(2, 2)))

    def test_only_a_linear_context_tells(self):
        # Words with at least one 1 and, from there on, only zeros: circular contexts with a 1 are never accepted.
        last = Automaton(2, [0], [1], [[[0], [1]], [[1], []]])
        self.assertFalse(self.check(last, (1,), (1, 1), []))
        self.assertEqual(separating_context(last, [1], [1, 1])[0], "linear")

    def test_without_accepted_words(self):
        for automaton in EMPTY:
            for first in words(2, 2)[1:]:
                for second in words(2, 2)[1:]:
                    self.assertTrue(self.check(automaton, first, second, contexts(2, 1)))

    def test_equal_words(self):
        chooser = generator(390)
        for _ in range(20):
            automaton = random_automaton(chooser, 3, 2)
            for word in words(2, 3)[1:]:
                self.assertIsNone(separating_context(automaton, list(word), list(word)))

    def test_words_of_unlike_lengths(self):
        chooser = generator(391)
        for _ in range(60):
            automaton = random_automaton(chooser, chooser.randint(1, 3), 2)
            tried = contexts(2, 1)
            for _ in range(6):
                first = [chooser.randrange(2) for _ in range(chooser.randint(1, 2))]
                second = [chooser.randrange(2) for _ in range(chooser.randint(3, 9))]
                self.check(automaton, first, second, tried)

    def test_random_automata(self):
        chooser = generator(392)
        congruent = 0
        for _ in range(60):
            letters = chooser.randint(1, 4)
            automaton = lively_automaton(chooser, chooser.randint(1, 3), letters)
            tried = contexts(letters, 2 if letters < 3 else 1)
            some = words(letters, 3)[1:]
            for _ in range(12):
                congruent += self.check(automaton, chooser.choice(some), chooser.choice(some), tried)
        self.assertGreater(congruent, 100)
        self.assertLess(congruent, 600)

    def test_longer_contexts_are_found(self):
        # The letter 1 is told from 0 only three letters later.
        automaton = Automaton(2, [0], [2], [[[0, 1], [0]], [[2], []], [[2], [2]]])
        self.check(automaton, (0, 1), (1, 0), contexts(2, 3))
        later = translate(parse_property("F(a & X X !a)", ["a"]), ["a"])
        for first in words(2, 3)[1:]:
            for second in words(2, 3)[1:]:
                self.check(later, first, second, contexts(2, 2))

    def test_congruent_words_can_stand_for_each_other(self):
        chooser = generator(393)
        some = words(2, 3)[1:]
        for _ in range(30):
            automaton = random_automaton(chooser, 3, 2)
            for _ in range(20):
                first, second = chooser.choice(some), chooser.choice(some)
                if separating_context(automaton, first, second) is None:
                    for more in some[:6]:
                        self.assertIsNone(separating_context(automaton, first + more, second + more))
                        self.assertIsNone(separating_context(automaton, more + first, more + second))
                    self.assertIsNone(separating_context(automaton, powers(first, 2), powers(second, 2)))


class ExponentTest(unittest.TestCase):
    def check(self, automaton, longest=4, tried=None):
        """Compare with the powers of many words; return the exponent."""
        found = exponent(automaton)
        if found is None:
            return None
        self.assertGreaterEqual(found, 1)
        for word in words(automaton.letters, longest)[1:]:
            self.assertIsNone(separating_context(automaton, powers(word, found), powers(word, found + 1)))
            for context in tried or []:
                self.assertEqual(accepts(automaton, made_word(context, powers(word, found))),
                                 accepts(automaton, made_word(context, powers(word, found + 1))))
        return found

    def counts(self, automaton, word):
        """Return True if the powers of a word never come to rest, as far as the first twenty tell."""
        return separating_context(automaton, powers(word, 20), powers(word, 21)) is not None

    def needs(self, automaton, word, count):
        """Return True if a power of a word is not congruent to the next greater one."""
        return separating_context(automaton, powers(word, count), powers(word, count + 1)) is not None

    def test_automata_that_count(self):
        self.assertIsNone(exponent(EVEN))
        self.assertTrue(self.counts(EVEN, (0,)))
        three = Automaton(1, [0], [0], [[[1]], [[2]], [[0]]])
        # All words are accepted, however often the letter comes.
        self.assertEqual(self.check(three), 1)
        three = Automaton(2, [0], [0], [[[1], [0]], [[2], [1]], [[0], []]])
        self.assertIsNone(exponent(three))
        self.assertTrue(self.counts(three, (0,)))
        mod_three = Automaton(2, [0], [0], [[[1], [0]], [[2], []], [[0], []]])
        self.assertIsNone(exponent(mod_three))

    def test_automata_that_do_not_count(self):
        for automaton, expected in (
                (Automaton(1, [0], [0], [[[0]]]), 1),
                (Automaton(2, [0], [1], [[[0], [1]], [[0], [1]]]), 1),
                # One letter 0 and then only letters 1: 0 0 is never good.
                (Automaton(2, [0], [1], [[[1], []], [[], [1]]]), 2),
                # Two letters 0, then only letters 1.
                (Automaton(2, [0], [2], [[[1], []], [[2], []], [[], [2]]]), 3)):
            self.assertEqual(self.check(automaton, tried=contexts(2, 1) if automaton.letters == 2 else None), expected)

    def test_without_initial_or_accepting_states(self):
        for automaton in EMPTY:
            self.assertEqual(self.check(automaton), 1)

    def test_random_automata(self):
        chooser = generator(394)
        found = []
        for _ in range(150):
            letters = chooser.randint(1, 3)
            automaton = lively_automaton(chooser, chooser.randint(1, 3), letters)
            found.append(self.check(automaton, 5 if letters < 3 else 3))
            some = words(letters, 6 if letters < 3 else 4)[1:]
            if found[-1] is None:
                self.assertTrue(any(self.counts(automaton, word) for word in some))
            elif found[-1] > 1:
                self.assertTrue(any(self.needs(automaton, word, found[-1] - 1) for word in some))
            else:
                self.assertFalse(any(self.counts(automaton, word) for word in some[:20]))
        self.assertGreater(found.count(None), 2)
        self.assertGreater(len(set(found)), 3)

    def test_the_states_in_another_order(self):
        chooser = generator(395)
        for _ in range(40):
            automaton = random_automaton(chooser, 3, 2)
            for order in ((1, 0, 2), (2, 0, 1), (2, 1, 0)):
                rows = [None] * 3
                for state, row in enumerate(automaton.rows):
                    rows[order[state]] = [sorted(order[target] for target in targets) for targets in row]
                other = Automaton(2, sorted(order[state] for state in automaton.initial),
                                  sorted(order[state] for state in automaton.accepting), rows)
                self.assertEqual(exponent(other), exponent(automaton))

    def test_automata_for_the_same_words(self):
        chooser = generator(396)
        for _ in range(40):
            automaton = random_automaton(chooser, 3, 2)
            self.assertEqual(exponent(trim(automaton)), exponent(automaton))

    def test_results_of_translate(self):
        for text, expected in (("X X a", 3), ("X a", 2), ("a", 1), ("true", 1), ("false", 1), ("G F a", 1),
                               ("F G a", 1), ("G(a -> X b)", 2), ("F(a & X a)", 2), ("a U b", 1), ("G a", 1),
                               ("X X (a <-> b)", 3), ("X G a", 2), ("G(Y a -> b)", 2), ("F(a & O b)", 2)):
            self.assertEqual(self.check(translate(parse_property(text, ["a", "b"]), ["a", "b"]), 3), expected, text)

    def test_formulas_are_aperiodic(self):
        chooser = generator(397)
        count = 0
        while count < 150:
            names = ["a", "b"][:chooser.randint(1, 2)]
            formula = random_formula(chooser, names, chooser.randint(2, 8))
            if temporal_count(formula) == 2:
                count += 1
                found = self.check(translate(formula, names), 2)
                self.assertIsNotNone(found)

    def test_a_hidden_signal_can_count(self):
        even = translate(parse_property("exists h: h & G(h <-> !X h) & G(h -> a)", ["a"]), ["a"])
        self.assertLessEqual(len(even.rows), 3)
        self.assertIsNone(exponent(even))
        self.assertTrue(self.counts(even, (0,)) or self.counts(even, (1, 0, 0)) or self.counts(even, (1,)))


if __name__ == "__main__":
    unittest.main()
