"""Points 32, 34, 35, 38 and 44 and the interface of reactivesynth/certificates.py."""

import unittest

from reactivesynth.certificates import audit, write_certificate
from reactivesynth.checking import breaking_word
from reactivesynth.errors import CertificateSyntaxError, Mismatch
from reactivesynth.machines import Machine, trace
from reactivesynth.machinetext import format_machine
from reactivesynth.specs import Spec, dual, satisfies
from reactivesynth.spectext import parse_spec
from reactivesynth.synthesis import synthesize
from reactivesynth.words import make_lasso
from tests.samples import generator, lassos, random_machine, random_spec

LEADS = (-3, -2, -1, 0, 1, 2)
CLAIMS = {True: "realizable\n", False: "unrealizable\n"}
ECHO = Machine(2, 2, 0, [], [[(0, 0), (0, 1)]])
GRANT = parse_spec("inputs r\noutputs g\nlead 0\nguarantee G(g <-> r)\n")


def some_specs(seed, count, size):
    chooser = generator(seed)
    for _ in range(count):
        inputs, outputs = ["a", "b"][:chooser.randint(0, 2)], ["x", "y"][:chooser.randint(0, 2)]
        yield chooser, random_spec(chooser, inputs, outputs, size)


class CertificateTest(unittest.TestCase):
    def check_audit(self, spec, claim, machine, words):
        """Audit a text and compare with satisfies of the trace; return True if the claim is true."""
        side = spec if claim else dual(spec)
        found = audit(spec, CLAIMS[claim] + format_machine(machine))
        broken = [word for word in words if not satisfies(side, trace(machine, word))]
        if found is None:
            self.assertEqual(broken, [])
        else:
            self.assertEqual(make_lasso(*found), found)
            self.assertTrue(all(0 <= letter < machine.inputs for letter in found[0] + found[1]))
            self.assertFalse(satisfies(side, trace(machine, found)))
        return found is None

    def test_known_texts(self):
        self.assertEqual(write_certificate(GRANT), "realizable\nmachine 2 2 0\nopening\n0/0 0/1\n")
        self.assertIsNone(audit(GRANT, "realizable\nmachine 2 2 0\nopening\n0/0 0/1\n"))
        # A machine that never grants is broken by each word with an r.
        head, loop = audit(GRANT, "realizable\nmachine 2 2 0\nopening\n0/0 0/0\n")
        self.assertIn(1, head + loop)
        ahead = parse_spec("inputs r\noutputs g\nlead 0\nguarantee G(g <-> X r)\n")
        self.assertTrue(write_certificate(ahead).startswith("unrealizable\nmachine 2 2 -1\nopening "))
        self.assertIsNone(audit(ahead, "unrealizable\nmachine 2 2 -1\nopening 0\n0/1 0/0\n"))
        self.assertIsNotNone(audit(ahead, "unrealizable\nmachine 2 2 -1\nopening 0\n0/0 0/1\n"))

    def test_what_is_written_is_what_synthesize_returns(self):
        for _, spec in some_specs(380, 120, 4):
            verdict = synthesize(spec)
            self.assertEqual(write_certificate(spec), CLAIMS[verdict.realizable] + format_machine(verdict.machine))

    def test_every_certificate_is_true(self):
        found = {True: 0, False: 0}
        for _, spec in some_specs(381, 120, 5):
            text = write_certificate(spec)
            self.assertIsNone(audit(spec, text))
            found[text.startswith("realizable")] += 1
            self.assertNotEqual(text.startswith("realizable"), write_certificate(dual(spec)).startswith("realizable"))
        self.assertGreater(min(found.values()), 30)

    def test_the_other_line_in_front(self):
        for lead in LEADS:
            for line in ("guarantee G(g <-> r)", "guarantee G(g <-> X r)", "guarantee F g", "guarantee false",
                         "negated"):
                spec = parse_spec(f"inputs r\noutputs g\nlead {lead}\n{line}\n")
                first, _, rest = write_certificate(spec).partition("\n")
                # A machine for one side never has the lead that the other side needs.
                with self.assertRaises(Mismatch):
                    audit(spec, ("un" + first).replace("unun", "") + "\n" + rest)

    def test_the_claim_of_the_dual(self):
        for _, spec in some_specs(382, 80, 4):
            text = write_certificate(spec)
            other = "un" + text if text.startswith("realizable") else text[2:]
            self.assertIsNone(audit(dual(spec), other))

    def test_drawn_machines_of_either_side(self):
        found = []
        for chooser, spec in some_specs(383, 150, 4):
            for claim in (True, False):
                side = spec if claim else dual(spec)
                letters = 1 << len(side.inputs)
                machine = random_machine(chooser, chooser.randint(1, 3), letters, 1 << len(side.outputs), side.lead)
                words = lassos(letters, 1, 2) if letters > 2 else lassos(letters, 2, 2)
                found.append(self.check_audit(spec, claim, machine, words))
                self.assertEqual(found[-1], breaking_word(side, machine) is None)
        self.assertGreater(found.count(True), 60)
        self.assertGreater(found.count(False), 60)

    def test_every_lead(self):
        words = lassos(2, 2, 3)
        for lead in LEADS:
            echo = Machine(2, 2, lead, [0] * max(0, -lead), [[(0, 0), (0, 1)]])
            deaf = Machine(2, 2, -1 - lead, [1] * max(0, 1 + lead), [[(0, 1), (0, 1)]])
            spec = parse_spec(f"inputs r\noutputs g\nlead {lead}\nassume G F r\nguarantee G F g\n")
            self.assertTrue(self.check_audit(spec, True, echo, words))
            self.assertFalse(self.check_audit(spec, False, deaf, words))
            spec = parse_spec(f"inputs r\noutputs g\nlead {lead}\nguarantee F !r\n")
            self.assertFalse(self.check_audit(spec, True, echo, words))
            self.assertTrue(self.check_audit(spec, False, deaf, words))


class WrongTextTest(unittest.TestCase):
    MACHINE = "machine 2 2 0\nopening\n0/0 0/1\n"

    def check_syntax(self, *texts):
        for text in texts:
            with self.subTest(text):
                with self.assertRaises(CertificateSyntaxError):
                    audit(GRANT, text)

    def test_the_first_line(self):
        for line in ("", " ", "Realizable", "realizable ", " realizable", "realisable", "realizable realizable",
                     "unrealizable ", "un realizable", "ununrealizable", "not realizable", "machine 2 2 0", "realizabl",
                     "realizable unrealizable", "true", "un"):
            self.check_syntax(line + "\n" + self.MACHINE, line + "\nx\n", line)
        self.check_syntax("", "\n", "realizable", "unrealizable", "realizable" + self.MACHINE, self.MACHINE,
                          "realizable " + self.MACHINE, "\nrealizable\n" + self.MACHINE)

    def test_what_follows(self):
        for claim in CLAIMS.values():
            for rest in ("", "\n", " ", "x", "machine 2 2 0\n", "machine 2 2 0\nopening\n", self.MACHINE[:-1],
                         self.MACHINE + "x", self.MACHINE + "\n", self.MACHINE + "0/0\n", "\n" + self.MACHINE,
                         "realizable\n" + self.MACHINE, "unrealizable\n" + self.MACHINE, " " + self.MACHINE,
                         "machine 2 2 3\nopening\n0/0 0/1\n", "machine 2 2 -4\nopening 0 0 0 0\n0/0 0/1\n",
                         "machine 2 2 0\nopening 0\n0/0 0/1\n", "machine 2 2 -1\nopening\n0/0 0/1\n",
                         "machine 2 2 -1\nopening 2\n0/0 0/1\n", "machine 2 2 0\nopening\n0/0 0/2\n",
                         "machine 2 2 0\nopening\n0/0 1/0\n", "machine 2 2 0\nopening\n0/0\n",
                         "machine 2 2 0\nopening\n0/0 0/0 0/0\n", "machine 2 2 0\nopening\n0/0  0/1\n",
                         "machine 2 2 0\nopening\n0/0 00/1\n", "machine 0 2 0\nopening\n\n",
                         "machine 2 2 -0\nopening\n0/0 0/1\n",
                         "machine 2 2 0\nopening \n0/0 0/1\n", "Machine 2 2 0\nopening\n0/0 0/1\n"):
                self.check_syntax(claim + rest)

    def test_machines_that_are_no_systems(self):
        spec = parse_spec("inputs a b\noutputs x\nlead 0\nguarantee F x\n")
        for inputs, outputs, lead in ((2, 2, 0), (4, 4, 0), (2, 4, 0), (4, 2, -1), (4, 2, 1), (2, 4, -2), (2, 4, 2),
                                      (1, 1, 0), (8, 2, 0), (3, 2, 0), (2, 3, -1), (2, 2, -1), (4, 4, -1), (4, 2, -3)):
            text = format_machine(Machine(inputs, outputs, lead, [0] * max(0, -lead), [[(0, 0)] * inputs]))
            for claim in CLAIMS.values():
                with self.assertRaises(Mismatch):
                    audit(spec, claim + text)
        with self.assertRaises(Mismatch):
            audit(spec, "realizable\nmachine 2 4 -1\nopening 0\n0/0 0/0\n")
        with self.assertRaises(Mismatch):
            audit(spec, "unrealizable\nmachine 4 2 0\nopening\n0/0 0/0 0/0 0/0\n")
        self.assertIsNotNone(audit(spec, "unrealizable\nmachine 2 4 -1\nopening 0\n0/0 0/0\n"))
        self.assertIsNotNone(audit(spec, "realizable\nmachine 4 2 0\nopening\n0/0 0/0 0/0 0/0\n"))

    def test_wrong_texts_come_before_machines_that_are_no_systems(self):
        self.check_syntax("realizable\nmachine 1 1 2\nopening\n0/1\n", "realisable\nmachine 1 1 2\nopening\n0/0\n",
                          "machine 1 1 2\nopening\n0/0\n", "unrealizable\nmachine 2 2 0\nopening\n0/0 0/1")
        with self.assertRaises(Mismatch):
            audit(GRANT, "realizable\nmachine 1 1 2\nopening\n0/0\n")

    def test_a_spec_without_signals(self):
        spec = Spec([], [], -2, [], [])
        self.assertEqual(write_certificate(spec), "realizable\nmachine 1 1 -2\nopening 0 0\n0/0\n")
        self.assertEqual(write_certificate(dual(spec)), "unrealizable\nmachine 1 1 -2\nopening 0 0\n0/0\n")
        self.assertEqual(audit(spec, "unrealizable\nmachine 1 1 1\nopening\n0/0\n"), ((), (0,)))


if __name__ == "__main__":
    unittest.main()
