"""Points 34, 35, 38 and 39 and the interface of reactivesynth/synthesis.py."""

import unittest

from reactivesynth.checking import breaking_word
from reactivesynth.machines import Machine
from reactivesynth.minimization import minimize
from reactivesynth.plays import play
from reactivesynth.specs import Spec, dual, satisfies
from reactivesynth.spectext import parse_spec
from reactivesynth.synthesis import Verdict, synthesize
from tests.oracles import slow_minimized
from tests.samples import generator, machine_parts, random_machine, random_property, random_spec

LEADS = (-3, -2, -1, 0, 1, 2)


def spec_of(inputs, outputs, lead, *lines):
    """Return the specification with these names and lines."""
    begin = f"inputs{inputs and ' ' + inputs}\noutputs{outputs and ' ' + outputs}\nlead {lead}\n"
    return parse_spec(begin + "".join(line + "\n" for line in lines))


def with_lead(spec, lead):
    return Spec(spec.inputs, spec.outputs, lead, spec.assumptions, spec.guarantees, negated=spec.negated)


class VerdictTest(unittest.TestCase):
    def test_attributes(self):
        machine = Machine(2, 2, 0, [], [[(0, 0), (0, 1)]])
        verdict = Verdict(True, machine)
        self.assertIs(verdict.realizable, True)
        self.assertEqual(machine_parts(verdict.machine), machine_parts(machine))
        self.assertIs(Verdict(False, machine).realizable, False)


class CheckedTest(unittest.TestCase):
    def check(self, spec, chooser=None):
        """Check all that is promised of a verdict, but not that of the dual; return whether it is realizable."""
        verdict = synthesize(spec)
        machine = verdict.machine
        self.assertIsInstance(verdict, Verdict)
        self.assertIs(type(verdict.realizable), bool)
        side = spec if verdict.realizable else dual(spec)
        self.assertEqual((machine.inputs, machine.outputs, machine.lead),
                         (1 << len(side.inputs), 1 << len(side.outputs), side.lead))
        self.assertIsNone(breaking_word(side, machine))
        self.assertEqual(machine_parts(minimize(machine)), machine_parts(machine))
        if len(machine.rows) <= 20:
            self.assertEqual(slow_minimized(machine), machine.rows)
        if chooser is not None:
            self.check_plays(spec, verdict, chooser)
        return verdict.realizable

    def check_plays(self, spec, verdict, chooser):
        """Let the machine play against machines of the other side."""
        machine = verdict.machine
        for states in (1, 1, 2, 2, 3, 4):
            other = random_machine(chooser, states, machine.outputs, machine.inputs, -1 - machine.lead)
            lasso = play(machine, other) if verdict.realizable else play(other, machine)
            self.assertIs(satisfies(spec, lasso), verdict.realizable)

    def check_both(self, spec, chooser=None):
        """Check the verdicts on a specification and on its dual."""
        realizable = self.check(spec, chooser)
        self.assertIs(self.check(dual(spec)), not realizable)
        return realizable


class KnownTest(CheckedTest):
    def test_examples(self):
        verdict = synthesize(parse_spec("inputs r\noutputs g\nlead 0\nguarantee G(g <-> r)\n"))
        self.assertEqual((verdict.realizable, verdict.machine.rows), (True, (((0, 0), (0, 1)),)))
        verdict = synthesize(parse_spec("inputs r\noutputs g\nlead 0\nguarantee G(g <-> X r)\n"))
        self.assertEqual((verdict.realizable, verdict.machine.lead, len(verdict.machine.opening)), (False, -1, 1))
        self.assertTrue(synthesize(parse_spec("inputs r\noutputs g\nlead 1\nguarantee G(g <-> X r)\n")).realizable)

    def test_what_a_lead_can_know(self):
        # With each formula stand the least leads with which a system can say always whether it is true, and with
        # which a system can say it wrongly at some turn; with the lead 3 stands what no system can.
        chooser = generator(330)
        for formula, always, negated in (
                ("Y Y Y r", -3, -3), ("Y Y r", -2, -3), ("Y r", -1, -3), ("r", 0, 0), ("X r", 1, 1), ("X X r", 2, 2),
                ("X X X r", 3, 3), ("Y O r", -1, -3), ("(r S g)", -3, 3), ("F r", 3, -3), ("true", -3, -3)):
            for lead in LEADS:
                with self.subTest((formula, lead)):
                    line = f"guarantee G(g <-> {formula})"
                    self.assertIs(self.check_both(spec_of("r", "g", lead, line), chooser), lead >= always)
                    self.assertIs(self.check_both(spec_of("r", "g", lead, line, "negated"), chooser), lead >= negated)

    def test_every_lead(self):
        # With each specification stands the least lead with which it is realizable.
        chooser = generator(331)
        for need, lines in (
                (-3, []), (3, ["negated"]), (-3, ["assume false"]), (3, ["guarantee false"]),
                (-3, ["guarantee false", "negated"]), (-3, ["assume false", "guarantee false"]),
                (3, ["assume false", "guarantee false", "negated"]), (-3, ["guarantee G F g"]),
                (3, ["guarantee G F r"]), (-3, ["assume G F r", "guarantee G F g"]),
                (-3, ["assume G F r", "guarantee G F r"]), (-3, ["assume G F g", "guarantee G F r"]),
                (-3, ["guarantee G(r -> F g)"]), (-3, ["guarantee G(r -> F g)", "guarantee G(g -> X !g)"]),
                (-1, ["guarantee G(X g <-> r)"]), (1, ["assume G F r", "guarantee G(g <-> X r)"]),
                (0, ["guarantee G(r -> g)", "guarantee G(g -> O r)", "guarantee !r -> !g"]),
                (-3, ["assume G(r <-> X !r)", "guarantee G(r -> g)", "guarantee F G(g -> r)"]),
                (0, ["assume G(r <-> X !r)", "guarantee G(r -> g)", "guarantee F G(g -> r)", "guarantee !g | r"]),
                (-2, ["assume G(r <-> X r)", "guarantee X X G(r <-> g)"]), (-3, ["guarantee G F(g <-> F r)"])):
            for lead in LEADS:
                with self.subTest((lines, lead)):
                    self.assertIs(self.check_both(spec_of("r", "g", lead, *lines), chooser), lead >= need)

    def test_hidden_signals(self):
        chooser = generator(332)
        for lines, expected in (
                (["guarantee exists h: h & G(h <-> !X h) & G(h -> g)"], True),
                (["guarantee exists h: h & G(h <-> !X h) & G(h -> r)"], False),
                (["assume exists h: h & G(h <-> !X h) & G(h -> r)", "guarantee G F r"], True),
                (["guarantee forall h: G F h -> G F (h & g)"], True),
                (["guarantee forall h: G F h -> G F (h & r)"], False),
                (["assume forall h: G F h -> G F (h & r)", "guarantee F G r"], True),
                (["guarantee exists h, k: G(h <-> X k) & G(k <-> X h) & G(h -> g) & F h"], True),
                (["guarantee forall h: F (h & g) | F (!h & g)"], True),
                (["assume forall h: F (h <-> r)", "guarantee G g"], True),
                (["guarantee exists h: G(h <-> F r) & G F (h <-> g)"], True),
                (["guarantee exists h: G(h <-> F r) & G (h <-> g)", "negated"], True)):
            for lead in LEADS:
                with self.subTest((lines, lead)):
                    self.assertIs(self.check_both(spec_of("r", "g", lead, *lines), chooser), expected)

    def test_without_inputs(self):
        for lead in LEADS:
            for line, expected in (("guarantee G(g <-> !X g) & g", True), ("guarantee G(g & !X g)", False),
                                   ("guarantee g & Y true", False), ("guarantee X Y g & F G !g", True)):
                self.assertIs(self.check_both(spec_of("", "g", lead, line), generator(333)), expected)

    def test_without_outputs(self):
        for lead in LEADS:
            for line, expected in (("guarantee F r | G !r", True), ("guarantee F r", False), ("guarantee G O r", False),
                                   ("guarantee X Z r -> r", True)):
                self.assertIs(self.check_both(spec_of("r", "", lead, line), generator(334)), expected)

    def test_without_signals(self):
        for lead in LEADS:
            for line, expected in (("guarantee true", True), ("guarantee false", False), ("guarantee X Y true", True),
                                   ("guarantee Y true", False), ("guarantee exists h: G(h <-> X !h)", True),
                                   ("guarantee forall h: F h", False)):
                self.assertIs(self.check_both(spec_of("", "", lead, line)), expected)

    def test_larger_specs(self):
        chooser = generator(335)
        for inputs, outputs, lines, need in (
                ("r s t", "g h k", ["guarantee G(r -> F g) & G(s -> F h)", "guarantee G !(g & h | h & k | g & k)",
                                    "guarantee G(t -> F k)"], -3),
                ("r s", "g h", ["assume G F r & G F s", "guarantee G F (g & h)", "guarantee G(h -> Y r) & !h"], -1),
                ("a b c", "x y z", ["guarantee G((a <-> x) & (y <-> Y Y b) & (z -> X c))"], 0),
                ("a b", "x y", ["guarantee (G F a -> G F (x & !y)) & (G F b -> G F (y & !x))"], -3)):
            for lead in LEADS:
                with self.subTest((lines, lead)):
                    self.assertIs(self.check_both(spec_of(inputs, outputs, lead, *lines), chooser), lead >= need)


class RandomTest(CheckedTest):
    def shifted(self, chooser, names):
        """Return a formula that tells of one of the signals some turns before or after."""
        formula = ("signal", chooser.choice(names))
        kind = chooser.choice(("next", "previous", "weak_previous"))
        for _ in range(chooser.choice((0, 0, 1, 2))):
            formula = (kind, formula)
        return formula

    def random_specs(self, seed, count, size):
        """Yield specifications; in every second one an output has to tell about the inputs."""
        chooser = generator(seed)
        for at in range(count):
            inputs, outputs = ["a", "b"][:chooser.randint(at % 2, 2)], ["x", "y"][:chooser.randint(at % 2, 2)]
            spec = random_spec(chooser, inputs, outputs, size)
            if at % 2 == 1:
                told = (chooser.choice(("and", "or", "iff", "until", "since")), self.shifted(chooser, inputs),
                        self.shifted(chooser, inputs + outputs))
                always = ("always", (chooser.choice(("iff", "iff", "or")), ("signal", "x"), told))
                spec = Spec(inputs, outputs, spec.lead, [], [always], negated=spec.negated)
            yield chooser, spec

    def test_exactly_one_side_wins(self):
        found = [self.check_both(spec, chooser) for chooser, spec in self.random_specs(336, 250, 4)]
        self.assertGreater(found.count(True), 50)
        self.assertGreater(found.count(False), 50)

    def test_with_a_greater_lead(self):
        changes = 0
        for _, spec in self.random_specs(337, 80, 4):
            found = [synthesize(with_lead(spec, lead)).realizable for lead in LEADS]
            self.assertEqual(found, sorted(found))
            changes += len(set(found)) - 1
        self.assertGreater(changes, 5)

    def test_with_a_guarantee_fewer_or_an_assumption_more(self):
        chooser = generator(338)
        count = 0
        while count < 60:
            names = ["a", "x"]
            assumptions = [random_property(chooser, names, 3, 0) for _ in range(chooser.randint(0, 1))]
            guarantees = [random_property(chooser, names, 3, chooser.choice((0, 1))) for _ in range(2)]
            lead = chooser.choice(LEADS)
            if not synthesize(Spec(["a"], ["x"], lead, assumptions, guarantees)).realizable:
                continue
            count += 1
            for at in range(2):
                self.assertTrue(self.check(Spec(["a"], ["x"], lead, assumptions, guarantees[at:at + 1])))
            more = assumptions + [random_property(chooser, names, 3, 0)]
            self.assertTrue(self.check(Spec(["a"], ["x"], lead, more, guarantees)))

    def test_two_calls_return_equal_machines(self):
        for _, spec in self.random_specs(339, 40, 5):
            first, second = synthesize(spec), synthesize(spec)
            self.assertIs(first.realizable, second.realizable)
            self.assertEqual(machine_parts(first.machine), machine_parts(second.machine))

    def test_small_systems_that_meet_a_spec_make_it_realizable(self):
        chooser = generator(340)
        count = 0
        while count < 25:
            spec = random_spec(chooser, ["a"], ["x"], 4)
            machine = random_machine(chooser, 2, 2, 2, spec.lead)
            if breaking_word(spec, machine) is None:
                count += 1
                self.assertTrue(synthesize(spec).realizable)


if __name__ == "__main__":
    unittest.main()
