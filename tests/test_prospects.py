"""Point 40 and the interface of reactivesynth/prospects.py."""

import unittest

from reactivesynth.errors import InvalidLetter
from reactivesynth.prospects import prospects
from reactivesynth.specs import Spec, dual, satisfies
from reactivesynth.spectext import parse_spec
from reactivesynth.words import make_lasso
from tests.samples import generator, lassos, random_spec, unrolled, words


def spec_of(*lines):
    """Return the specification without inputs and with the output g."""
    return parse_spec("inputs\noutputs g\nlead 0\n" + "".join(line + "\n" for line in lines))


class ProspectsTest(unittest.TestCase):
    def check(self, spec, word, endings):
        """Check both lassos, and compare them with some words that begin with the word; return which are there."""
        found = prospects(spec, list(word))
        self.assertIs(type(found), tuple)
        self.assertEqual(len(found), 2)
        good, bad = found
        for lasso, expected in ((good, True), (bad, False)):
            if lasso is not None:
                self.assertEqual(make_lasso(*lasso), lasso)
                self.assertEqual(tuple(unrolled(lasso, len(word))[:len(word)]), tuple(word))
                self.assertIs(satisfies(spec, lasso), expected)
        for head, loop in endings:
            if satisfies(spec, (tuple(word) + head, loop)):
                self.assertIsNotNone(good)
            else:
                self.assertIsNotNone(bad)
        return good is not None, bad is not None

    def test_known_prospects(self):
        endings = lassos(2, 1, 2)
        for line, rows in (("G g", {(): "gb", (1,): "gb", (0,): "b", (1, 0, 1): "b", (1, 1, 1): "gb"}),
                           ("F g", {(): "gb", (0, 0): "gb", (1,): "g", (0, 1, 0): "g"}),
                           ("X g", {(): "gb", (1,): "gb", (0, 1): "g", (1, 0): "b", (1, 0, 1): "b"}),
                           ("G F g", {(): "gb", (0, 0, 0): "gb", (1, 1): "gb"}),
                           ("g U !g", {(): "gb", (0,): "g", (1, 1): "gb", (1, 1, 0): "g"}),
                           ("true", {(): "g", (0,): "g", (1, 0): "g"}), ("false", {(): "b", (1,): "b"}),
                           ("Y g", {(): "b", (1,): "b"}), ("X Y g", {(): "gb", (1,): "g", (0,): "b"}),
                           ("g & G F g", {(): "gb", (0,): "b", (1, 0): "gb"}),
                           ("exists h: h & G(h <-> !X h) & G(h -> g)", {(): "gb", (1, 0, 1): "gb", (1, 0, 0): "b"}),
                           ("forall h: G(h -> X h) -> G(h -> g)", {(): "gb", (1,): "gb", (1, 0): "b"}),
                           ("forall h: F(h & g) | F(!h & g)", {(): "gb", (0, 0): "gb", (0, 1): "g"})):
            for word, expected in rows.items():
                with self.subTest((line, word)):
                    good, bad = self.check(spec_of("guarantee " + line), word, endings)
                    self.assertEqual((good, bad), ("g" in expected, "b" in expected))
                    good, bad = self.check(spec_of("guarantee " + line, "negated"), word, endings)
                    self.assertEqual((good, bad), ("b" in expected, "g" in expected))

    def test_assumptions(self):
        spec = spec_of("assume X g", "guarantee G g")
        for word, expected in (((), (True, True)), ((0,), (True, True)), ((0, 1), (False, True)),
                               ((0, 0), (True, False)), ((1, 1), (True, True)), ((1, 0), (True, False))):
            self.assertEqual(self.check(spec, word, lassos(2, 1, 2)), expected)
        self.assertEqual(self.check(spec_of("assume false"), (), lassos(2, 1, 2)), (True, False))
        self.assertEqual(self.check(spec_of(), (), lassos(2, 1, 2)), (True, False))
        self.assertEqual(self.check(spec_of("negated"), (1, 0), lassos(2, 1, 2)), (False, True))

    def test_without_signals(self):
        for line, expected in (("true", (True, False)), ("false", (False, True)), ("X Y true", (True, False))):
            spec = parse_spec(f"inputs\noutputs\nlead 2\nguarantee {line}\n")
            for word in ((), (0,), (0, 0, 0)):
                self.assertEqual(self.check(spec, word, [((), (0,))]), expected)

    def test_random_specs(self):
        chooser = generator(350)
        endings = lassos(2, 2, 2)
        for _ in range(60):
            spec = random_spec(chooser, ["a"], [], 5)
            for word in words(2, 3):
                self.check(spec, word, endings)

    def test_more_signals(self):
        chooser = generator(351)
        for _ in range(60):
            spec = random_spec(chooser, ["a", "b"][:chooser.randint(1, 2)], ["x"], 5)
            letters = 1 << len(spec.signals)
            endings = lassos(letters, 0, 2)
            for _ in range(4):
                self.check(spec, tuple(chooser.randrange(letters) for _ in range(chooser.randint(0, 5))), endings)

    def test_long_words(self):
        spec = parse_spec("inputs r\noutputs g\nlead 0\nguarantee G(r -> F g) & G(g -> Y r)\n")
        self.assertEqual(self.check(spec, (1, 2) * 300, [((), (0,))]), (True, True))
        self.assertEqual(self.check(spec, (1, 2) * 300 + (2,), [((), (0,))]), (False, True))

    def test_the_lead_does_not_matter(self):
        spec = parse_spec("inputs r\noutputs g\nlead -3\nguarantee G(r -> X g)\n")
        for lead in (-3, -1, 0, 2):
            other = Spec(["r"], ["g"], lead, [], spec.guarantees)
            for word in words(4, 2):
                self.assertEqual(prospects(other, list(word)), prospects(spec, list(word)))
                self.assertIs(type(prospects(dual(other), [])), tuple)

    def test_invalid_letters(self):
        spec = parse_spec("inputs r\noutputs g\nlead 0\nguarantee G(r -> X g)\n")
        for word in ([4], [-1], [0, 4], [0, 1, 2, 3, 9], [5, 0], [0, -3, 1], [10 ** 30]):
            with self.assertRaises(InvalidLetter):
                prospects(spec, word)
        with self.assertRaises(InvalidLetter):
            prospects(parse_spec("inputs\noutputs\nlead 0\n"), [1])
        with self.assertRaises(InvalidLetter):
            prospects(spec_of("guarantee false"), [0, 2])


if __name__ == "__main__":
    unittest.main()
