"""Points 40 and 41 and the interface of reactivesynth/monitors.py."""

import unittest

from reactivesynth.errors import InvalidLetter
from reactivesynth.monitors import Monitor
from reactivesynth.prospects import prospects
from reactivesynth.specs import Spec, dual
from reactivesynth.spectext import parse_spec
from tests.samples import generator, random_spec, words


def spec_of(*lines):
    """Return the specification with one input and one output."""
    return parse_spec("inputs r\noutputs g\nlead 0\n" + "".join(line + "\n" for line in lines))


def expected_verdict(spec, word):
    good, bad = prospects(spec, list(word))
    if good is None:
        return "broken"
    return "met" if bad is None else "open"


def numbered_in_order(rows):
    """Return True if states have their numbers in the order in which they are first reached."""
    order = [0]
    for state in order:
        for target in rows[state]:
            if target not in order:
                order.append(target)
    return order == list(range(len(rows)))


def alike_states(verdicts, rows):
    """Return the pairs of states that no word tells apart, after comparing all pairs again and again."""
    states = range(len(rows))
    unlike = {(one, two) for one in states for two in states if verdicts[one] != verdicts[two]}
    while True:
        more = {(one, two) for one in states for two in states
                if any(pair in unlike for pair in zip(rows[one], rows[two]))}
        if more <= unlike:
            return [(one, two) for one in states for two in states if one < two and (one, two) not in unlike]
        unlike |= more


def table(monitor):
    return monitor.verdicts, monitor.rows


class MonitorTest(unittest.TestCase):
    def check_form(self, spec):
        """Check all that is promised of the table alone, and return the monitor."""
        monitor = Monitor(spec)
        self.assertEqual(monitor.state, 0)
        self.assertIs(type(monitor.verdicts), tuple)
        self.assertIs(type(monitor.rows), tuple)
        self.assertEqual(len(monitor.verdicts), len(monitor.rows))
        for state, row in enumerate(monitor.rows):
            self.assertIs(type(row), tuple)
            self.assertEqual(len(row), 1 << len(spec.signals))
            if monitor.verdicts[state] != "open":
                self.assertEqual(set(row), {state})
        self.assertTrue(numbered_in_order(monitor.rows))
        self.assertEqual(alike_states(monitor.verdicts, monitor.rows), [])
        return monitor

    def check(self, spec, longest):
        """Compare with prospects behind every word up to a length."""
        monitor = self.check_form(spec)
        for word in words(1 << len(spec.signals), longest):
            state = 0
            for letter in word:
                state = monitor.rows[state][letter]
            self.assertEqual(monitor.verdicts[state], expected_verdict(spec, word), word)
        return monitor

    def test_example(self):
        monitor = Monitor(parse_spec("inputs\noutputs g\nlead 0\nguarantee X g\n"))
        self.assertEqual((monitor.verdicts, monitor.rows),
                         (("open", "open", "broken", "met"), ((1, 1), (2, 3), (2, 2), (3, 3))))

    def test_known_tables(self):
        for line, expected in (
                ("true", (("met",), ((0, 0),))), ("false", (("broken",), ((0, 0),))),
                ("G F g", (("open",), ((0, 0),))), ("F G g", (("open",), ((0, 0),))),
                ("G g", (("open", "broken"), ((1, 0), (1, 1)))), ("F g", (("open", "met"), ((0, 1), (1, 1)))),
                ("g", (("open", "broken", "met"), ((1, 2), (1, 1), (2, 2)))),
                ("g & G F g", (("open", "broken", "open"), ((1, 2), (1, 1), (2, 2)))),
                ("F(g & X !g)", (("open", "open", "met"), ((0, 1), (2, 1), (2, 2)))),
                ("exists h: h & G(h <-> !X h) & G(h -> g)",
                 (("open", "broken", "open"), ((1, 2), (1, 1), (0, 0))))):
            spec = parse_spec(f"inputs\noutputs g\nlead -1\nguarantee {line}\n")
            self.assertEqual(table(self.check(spec, 4)), expected, line)

    def test_without_signals(self):
        for lines, expected in (("", "met"), ("negated\n", "broken"), ("guarantee false\n", "broken"),
                                ("assume Y true\nguarantee false\n", "met")):
            monitor = self.check(parse_spec("inputs\noutputs\nlead 1\n" + lines), 3)
            self.assertEqual(table(monitor), ((expected,), ((0,),)))

    def test_reading(self):
        monitor = Monitor(spec_of("guarantee G(r -> X g)"))
        self.assertEqual((monitor.state, monitor.verdict), (0, "open"))
        self.assertEqual(monitor.read(1), "open")
        self.assertEqual((monitor.state, monitor.verdict), (1, "open"))
        self.assertEqual(monitor.read(3), "open")
        self.assertEqual(monitor.read(2), "open")
        self.assertEqual((monitor.state, monitor.verdict), (0, "open"))
        self.assertEqual([monitor.read(letter) for letter in (0, 1, 0, 2, 3)],
                         ["open", "open", "broken", "broken", "broken"])
        self.assertEqual(monitor.verdict, "broken")
        self.assertIsInstance(vars(Monitor)["verdict"], property)

    def test_reading_goes_through_the_table(self):
        chooser = generator(360)
        for _ in range(40):
            spec = random_spec(chooser, ["a"], ["x"], 4)
            monitor, other = Monitor(spec), Monitor(spec)
            word = [chooser.randrange(4) for _ in range(8)]
            for at, letter in enumerate(word):
                target = monitor.rows[monitor.state][letter]
                self.assertEqual(monitor.read(letter), monitor.verdicts[target])
                self.assertEqual((monitor.state, monitor.verdict), (target, monitor.verdicts[target]))
                self.assertEqual(monitor.verdict, expected_verdict(spec, word[:at + 1]))
            self.assertEqual(other.state, 0)

    def test_after_met_and_broken_it_stays(self):
        for lines, word, verdict in ((["guarantee F g"], [0, 2], "met"), (["guarantee G g"], [2, 1], "broken"),
                                     (["assume r", "guarantee g"], [0], "met"),
                                     (["guarantee g", "negated"], [0], "met")):
            monitor = Monitor(spec_of(*lines))
            self.assertEqual([monitor.read(letter) for letter in word][-1], verdict)
            for letter in (0, 1, 2, 3, 3, 2, 1, 0):
                self.assertEqual(monitor.read(letter), verdict)

    def test_invalid_letters_change_nothing(self):
        monitor = Monitor(spec_of("guarantee G(r -> X g)"))
        monitor.read(1)
        before = dict(vars(monitor))
        for letter in (4, -1, 5, 100, -4, 10 ** 20):
            with self.assertRaises(InvalidLetter):
                monitor.read(letter)
            self.assertEqual(vars(monitor), before)
        self.assertEqual(monitor.read(0), "broken")
        with self.assertRaises(InvalidLetter):
            Monitor(parse_spec("inputs\noutputs\nlead 0\n")).read(1)

    def test_equal_meaning_gives_equal_tables(self):
        for one, two in (("F r", "true U r"), ("!F r", "G !r"), ("r W g", "(r U g) | G r"), ("r R g", "!(!r U !g)"),
                         ("G(g -> O r)", "!g W r"), ("X r & X g", "X(r & g)"), ("G(Y r -> g)", "G(r -> X g)"),
                         ("F r & F g", "F(r & F g) | F(g & F r)"), ("exists h: G(h <-> r) & G(h -> g)", "G(r -> g)"),
                         ("forall h: G(h -> r) | F(h & !r)", "true"), ("G F r", "G F (r & X F r)"),
                         ("exists h: F h & G(h -> r)", "F r"), ("G(r | X g)", "G(Y !r -> g)"),
                         ("G H r", "G r"), ("F(g & Y r)", "F(r & X g)")):
            first, second = Monitor(spec_of("guarantee " + one)), Monitor(spec_of("guarantee " + two))
            self.assertEqual(table(first), table(second), (one, two))
            self.assertEqual(table(Monitor(spec_of(f"assume {one}", "guarantee false"))),
                             table(Monitor(spec_of(f"guarantee {two}", "negated"))), (one, two))

    def test_the_negation_exchanges_the_verdicts(self):
        chooser = generator(361)
        names = {"open": "open", "met": "broken", "broken": "met"}
        for _ in range(60):
            spec = random_spec(chooser, ["a"], ["x"], 4)
            other = Spec(spec.inputs, spec.outputs, 0, spec.assumptions, spec.guarantees, negated=not spec.negated)
            verdicts, rows = table(Monitor(spec))
            self.assertEqual(table(Monitor(other)), (tuple(names[verdict] for verdict in verdicts), rows))

    def test_random_specs(self):
        chooser = generator(362)
        for _ in range(60):
            self.check(random_spec(chooser, ["a"], [], 5), 4)
        for _ in range(25):
            self.check(random_spec(chooser, ["a"], ["x"], 5), 2)

    def test_larger_specs(self):
        for lines, count in ((["guarantee G(r -> X X X g)"], 9), (["guarantee F(r & X g & X X r & X X X g)"], 7),
                             (["assume G(r <-> X X r)", "guarantee G(g <-> Y r)"], None)):
            monitor = self.check_form(spec_of(*lines))
            if count is not None:
                self.assertEqual(len(monitor.rows), count)
            self.check_form(dual(spec_of(*lines)))

    def test_three_inputs_and_three_outputs(self):
        spec = parse_spec("inputs a b c\noutputs x y z\nlead 0\nguarantee G(a & b & c -> X(x & y & z))\n")
        monitor = self.check_form(spec)
        self.assertEqual((monitor.verdicts, len(monitor.rows[0])), (("open", "open", "broken"), 64))
        self.assertEqual(monitor.rows[0], tuple(1 if letter % 8 == 7 else 0 for letter in range(64)))
        self.assertEqual(monitor.rows[1][56:], (0,) * 7 + (1,))


if __name__ == "__main__":
    unittest.main()
