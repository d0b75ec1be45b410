"""Points 33 and 34 and the interface of reactivesynth/checking.py."""

import unittest

from reactivesynth.checking import breaking_word
from reactivesynth.errors import Mismatch
from reactivesynth.machines import Machine, trace
from reactivesynth.specs import Spec, satisfies
from reactivesynth.spectext import parse_spec
from reactivesynth.words import make_lasso
from tests.samples import generator, lassos, random_machine, random_spec

LEADS = (-3, -2, -1, 0, 1, 2)
# Machines that say what they heard 3, 2, 1 or 0 turns before, or hear 1 or 2 turns later.
ECHO = {lead: Machine(2, 2, lead, [0] * max(0, -lead), [[(0, 0), (0, 1)]]) for lead in LEADS}


def spec_of(lead, *lines):
    """Return the specification with one input and one output and these lines."""
    return parse_spec(f"inputs r\noutputs g\nlead {lead}\n" + "".join(line + "\n" for line in lines))


class BreakingWordTest(unittest.TestCase):
    def check(self, spec, machine, words):
        """Compare with satisfies at many words; return True if the machine meets the specification."""
        found = breaking_word(spec, machine)
        broken = [word for word in words if not satisfies(spec, trace(machine, word))]
        if found is None:
            self.assertEqual(broken, [])
            return True
        self.assertEqual(make_lasso(*found), found)
        self.assertTrue(all(0 <= letter < machine.inputs for letter in found[0] + found[1]))
        self.assertFalse(satisfies(spec, trace(machine, found)))
        return False

    def test_machines_that_say_what_they_heard(self):
        words = lassos(2, 2, 3)
        steps = {-3: "Y Y Y r", -2: "Y Y r", -1: "Y r", 0: "r", 1: "X r", 2: "X X r"}
        for lead in LEADS:
            for other in LEADS:
                spec = spec_of(lead, f"guarantee G(g <-> {steps[other]})")
                self.assertEqual(self.check(spec, ECHO[lead], words), lead == other)
                spec = spec_of(lead, f"guarantee !G(g <-> {steps[other]})", "negated")
                self.assertEqual(self.check(spec, ECHO[lead], words), lead == other)

    def test_only_some_words_break(self):
        words = lassos(2, 2, 4)
        # With each specification stand the leads with which the machine meets it.
        for lines, leads in ((["guarantee F g"], ()), (["guarantee G F g"], ()), (["guarantee G F g", "negated"], ()),
                             (["assume F r", "guarantee F g"], (-3, -2, -1, 0)),
                             (["assume X F r", "guarantee F g"], (-3, -2, -1, 0, 1)),
                             (["assume G F r", "guarantee G F g"], LEADS), (["assume F G r", "guarantee F G g"], LEADS),
                             (["guarantee true"], LEADS), (["assume false", "guarantee false"], LEADS), ([], LEADS),
                             (["guarantee false"], ()), (["guarantee false", "negated"], LEADS), (["negated"], ()),
                             (["assume exists h: h & G(h <-> !X h) & G(h -> r)", "guarantee G(g | Y g | !Y true)"],
                              (-1, 0, 1, 2)),
                             (["guarantee forall h: G(h -> X h) -> F G(h -> g)"], ()),
                             (["assume forall h: G F h -> G F (h & r)", "guarantee F G g"], LEADS)):
            for lead in LEADS:
                with self.subTest((lines, lead)):
                    self.assertEqual(self.check(spec_of(lead, *lines), ECHO[lead], words), lead in leads)

    def test_the_opening_counts(self):
        for first, expected in ((0, True), (1, False)):
            machine = Machine(2, 2, -2, [0, first], [[(0, 0), (0, 0)]])
            self.assertEqual(self.check(spec_of(-2, "guarantee G !g"), machine, lassos(2, 1, 2)), expected)

    def test_letters_that_are_never_said_do_not_count(self):
        # The letters 1 are emitted for the first two letters heard alone.
        machine = Machine(2, 2, 2, [], [[(1, 1), (1, 1)], [(2, 1), (2, 1)], [(2, 0), (2, 0)]])
        self.assertTrue(self.check(spec_of(2, "guarantee G !g"), machine, lassos(2, 1, 2)))
        machine = Machine(2, 2, 1, [], [[(1, 1), (1, 1)], [(2, 1), (2, 1)], [(2, 0), (2, 0)]])
        self.assertFalse(self.check(spec_of(1, "guarantee G !g"), machine, lassos(2, 1, 2)))

    def test_without_signals(self):
        for lead in LEADS:
            machine = Machine(1, 1, lead, [0] * max(0, -lead), [[(1, 0)], [(0, 0)]])
            for prop, expected in (("true", True), ("false", False), ("X true", True), ("Y true", False)):
                spec = parse_spec(f"inputs\noutputs\nlead {lead}\nguarantee {prop}\n")
                self.assertEqual(self.check(spec, machine, [((), (0,))]), expected)

    def test_random_specs_and_machines(self):
        chooser = generator(320)
        met = 0
        for _ in range(250):
            inputs, outputs = ["a", "b"][:chooser.randint(0, 2)], ["x", "y"][:chooser.randint(0, 2)]
            spec = random_spec(chooser, inputs, outputs, 4)
            letters = 1 << len(inputs)
            machine = random_machine(chooser, chooser.randint(1, 3), letters, 1 << len(outputs), spec.lead)
            words = lassos(letters, 1, 2) if letters > 2 else lassos(letters, 2, 3)
            met += self.check(spec, machine, words)
        self.assertGreater(met, 50)
        self.assertLess(met, 200)

    def test_a_word_that_breaks_is_found_whenever_there_is_one(self):
        chooser = generator(321)
        words = lassos(2, 2, 3)
        for _ in range(150):
            spec = random_spec(chooser, ["a"], ["x"], 3)
            machine = random_machine(chooser, 2, 2, 2, spec.lead)
            if any(not satisfies(spec, trace(machine, word)) for word in words):
                self.assertIsNotNone(breaking_word(spec, machine))


class MismatchTest(unittest.TestCase):
    def test_each_case(self):
        spec = Spec(["a", "b"], ["x"], 0, [], [])
        self.assertIsNone(breaking_word(spec, Machine(4, 2, 0, [], [[(0, 0)] * 4])))
        for inputs, outputs in ((2, 2), (8, 2), (3, 2), (5, 2), (1, 2), (4, 1), (4, 4), (4, 3), (2, 4)):
            with self.assertRaises(Mismatch):
                breaking_word(spec, Machine(inputs, outputs, 0, [], [[(0, 0)] * inputs]))
        for lead in LEADS:
            for other in LEADS:
                spec = Spec(["a", "b"], ["x"], lead, [], [])
                machine = Machine(4, 2, other, [0] * max(0, -other), [[(0, 0)] * 4])
                if lead == other:
                    self.assertIsNone(breaking_word(spec, machine))
                else:
                    with self.assertRaises(Mismatch):
                        breaking_word(spec, machine)


if __name__ == "__main__":
    unittest.main()
