"""Points 22, 34 and 49 and the interface of reactivesynth/smallest.py."""

import itertools
import unittest

from reactivesynth.checking import breaking_word
from reactivesynth.machines import Machine, trace
from reactivesynth.minimization import minimize
from reactivesynth.smallest import smallest_system
from reactivesynth.specs import Spec, dual, satisfies
from reactivesynth.spectext import parse_spec
from reactivesynth.synthesis import synthesize
from tests.samples import generator, lassos, machine_parts, random_formula, random_property, random_spec

LEADS = (-3, -2, -1, 0, 1, 2)


def spec_of(lead, *lines, inputs="inputs r", outputs="outputs g"):
    return parse_spec(f"{inputs}\n{outputs}\nlead {lead}\n" + "".join(line + "\n" for line in lines))


def states_in_order(rows):
    """Return the states that can be reached, in the order in which they are first reached."""
    order = [0]
    for state in order:
        for target, _ in rows[state]:
            if target not in order:
                order.append(target)
    return order


def all_machines(spec, states):
    """Yield all systems for a specification with so many states, numbered in the order in which they are reached."""
    inputs, outputs = 1 << len(spec.inputs), 1 << len(spec.outputs)
    moves = list(itertools.product(range(states), range(outputs)))
    openings = list(itertools.product(range(outputs), repeat=max(0, -spec.lead)))
    for row in itertools.product(moves, repeat=states * inputs):
        rows = [row[at:at + inputs] for at in range(0, len(row), inputs)]
        if states_in_order(rows) == list(range(states)):
            for opening in openings:
                yield Machine(inputs, outputs, spec.lead, opening, rows)


def some_machine_meets(spec, states):
    """Return True if a system with so many states meets a specification, after trying them all."""
    words = lassos(1 << len(spec.inputs), 1, 2) if spec.inputs else [((), (0,))]
    known = {}
    for machine in all_machines(spec, states):
        for word in words:
            run = trace(machine, word)
            if run not in known:
                known[run] = satisfies(spec, run)
            if not known[run]:
                break
        else:
            if breaking_word(spec, machine) is None:
                return True
    return False


class SmallestTest(unittest.TestCase):
    def check(self, spec, most=3):
        """Compare with a search over all machines with at most so many states; return the number of states or None."""
        expected = None
        for states in range(1, most + 1):
            found = smallest_system(spec, states)
            if expected is None and some_machine_meets(spec, states):
                expected = states
            if expected is None:
                self.assertIsNone(found)
            else:
                self.check_system(spec, found, expected)
        if not synthesize(spec).realizable:
            self.assertIsNone(expected)
            self.assertIsNone(smallest_system(spec, 3))
        return expected

    def check_system(self, spec, machine, states):
        self.assertIsInstance(machine, Machine)
        self.assertEqual(len(machine.rows), states)
        self.assertEqual(states_in_order(machine.rows), list(range(states)))
        self.assertEqual(machine_parts(minimize(machine)), machine_parts(machine))
        self.assertEqual((machine.inputs, machine.outputs, machine.lead),
                         (1 << len(spec.inputs), 1 << len(spec.outputs), spec.lead))
        self.assertIsNone(breaking_word(spec, machine))

    def test_example(self):
        spec = parse_spec("inputs r\noutputs g\nlead 0\nguarantee G(r -> F g) & G(g -> X!g)\n")
        self.assertEqual((smallest_system(spec, 1), len(smallest_system(spec, 2).rows)), (None, 2))
        self.assertEqual(self.check(spec, 2), 2)

    def test_what_is_heard_some_turns_before(self):
        # A row has the numbers of states that are needed with each lead from -3 to 2; 0 is for none and 9 for many.
        for line, needed in (("guarantee G(g <-> Y Y Y r)", (1, 2, 9, 9, 9, 9)),
                             ("guarantee G(g <-> Y Y r)", (0, 1, 2, 9, 9, 9)),
                             ("guarantee G(g <-> Y r)", (0, 0, 1, 2, 9, 9)),
                             ("guarantee G(g <-> r)", (0, 0, 0, 1, 2, 9)),
                             ("guarantee G(g <-> X r)", (0, 0, 0, 0, 1, 2)),
                             ("guarantee G(g <-> X X r)", (0, 0, 0, 0, 0, 1))):
            for lead, states in zip(LEADS, needed):
                with self.subTest((line, lead)):
                    spec = spec_of(lead, line)
                    self.assertEqual(synthesize(spec).realizable, states > 0)
                    for limit in (1, 2, 3):
                        found = smallest_system(spec, limit)
                        if 0 < states <= limit:
                            self.check_system(spec, found, states)
                        else:
                            self.assertIsNone(found)

    def test_three_states(self):
        for lead, lines, expected in ((0, ["guarantee G(g <-> Y Y r)"], None),
                                      (0, ["guarantee G F(g & X g & X X !g)"], 3),
                                      (-1, ["guarantee g & X !g & X X !g & G(g <-> X X X g)"], 3),
                                      (1, ["guarantee G(g <-> (r & Y r & Y Y r))"], None),
                                      (0, ["guarantee G(g <-> (r & Y r & Y Y r))"], 3)):
            with self.subTest(lines):
                self.assertEqual(self.check(spec_of(lead, *lines)), expected)

    def test_without_inputs(self):
        chooser = generator(410)
        for lead in LEADS:
            self.assertEqual(self.check(spec_of(lead, "guarantee G(g <-> !X g)", inputs="inputs")), 2)
            # The opening can say the 1; with a positive lead there are letters before it that are never said.
            states = (1, 1, 1, 2, 3, None)[lead + 3]
            self.assertEqual(self.check(spec_of(lead, "guarantee g & X !g & X X G !g", inputs="inputs")), states)
            for _ in range(5):
                props = [random_formula(chooser, ["g"], chooser.randint(1, 6)) for _ in range(2)]
                self.check(Spec([], ["g"], lead, [], props))

    def test_without_outputs(self):
        for lead in LEADS:
            self.assertEqual(self.check(spec_of(lead, "guarantee F r | G !r", outputs="outputs"), 2), 1)
            self.assertIsNone(self.check(spec_of(lead, "guarantee F r", outputs="outputs"), 2))
            self.assertEqual(self.check(spec_of(lead, inputs="inputs", outputs="outputs")), 1)
            self.assertIsNone(self.check(spec_of(lead, "negated", inputs="inputs", outputs="outputs")))

    def test_every_lead(self):
        chooser = generator(411)
        found = []
        for lead in LEADS:
            for _ in range(8):
                told = ("until", random_formula(chooser, ["r"], 2), random_formula(chooser, ["r", "g"], 2))
                always = ("always", (chooser.choice(("iff", "or", "implies")), ("signal", "g"), told))
                props = [always, random_property(chooser, ["r", "g"], 4, chooser.choice((0, 0, 1)))]
                spec = Spec(["r"], ["g"], lead, props[2:], props[:2], negated=chooser.random() < 0.3)
                found.append(self.check(spec, 2))
        self.assertGreater(found.count(None), 5)
        self.assertGreater(found.count(1), 5)

    def test_random_specs(self):
        chooser = generator(412)
        for _ in range(40):
            self.check(random_spec(chooser, ["r"], ["g"], 5), 2)

    def test_negated_and_dual_specs(self):
        for lead in LEADS:
            for line in ("guarantee G(g <-> r)", "guarantee G F g | F G r", "guarantee G(r -> X g)"):
                for spec in (spec_of(lead, line), spec_of(lead, line, "negated"), dual(spec_of(lead, line))):
                    self.check(spec, 2)

    def test_far_fewer_states_than_the_synthesized_machine(self):
        spec = spec_of(0, "guarantee G(r -> F(g & X g & X X !g)) & G F !g")
        self.assertGreater(len(synthesize(spec).machine.rows), 3)
        self.check_system(spec, smallest_system(spec, 3), 3)

    def test_equal_results(self):
        for lead in LEADS:
            spec = spec_of(lead, "guarantee G F(g & X !g) & G(r -> F g)")
            first, second = smallest_system(spec, 3), smallest_system(spec, 3)
            self.assertEqual(machine_parts(first), machine_parts(second))


if __name__ == "__main__":
    unittest.main()
