"""Points 28 to 30 and the interface of reactivesynth/plays.py."""

import unittest

from reactivesynth.errors import Mismatch
from reactivesynth.machines import Machine, respond
from reactivesynth.plays import play
from reactivesynth.words import make_lasso, relabel
from tests.oracles import slow_play
from tests.samples import generator, random_machine, unrolled

LEADS = (-3, -2, -1, 0, 1, 2)


class PlayTest(unittest.TestCase):
    def check(self, machine, opponent, turns=80):
        lasso = play(machine, opponent)
        self.assertEqual(make_lasso(*lasso), lasso)
        self.assertEqual(unrolled(lasso, turns), slow_play(machine, opponent, turns))
        return lasso

    def test_example(self):
        echo = Machine(2, 2, 0, [], [[(0, 0), (0, 1)]])
        flip = Machine(2, 2, -1, [1], [[(0, 1), (0, 0)]])
        self.assertEqual(play(echo, flip), ((), (3, 0)))

    def test_openings_on_either_side(self):
        # The machine hears 2, 0, 1 and then what it has said itself before.
        ahead = Machine(3, 3, 2, [], [[(0, 1), (0, 2), (0, 0)]])
        behind = Machine(3, 3, -3, [2, 0, 1], [[(0, 0), (0, 1), (0, 2)]])
        self.assertEqual(self.check(ahead, behind), ((), (2 + 3 * 2, 0 + 3 * 0, 1 + 3 * 1)))
        self.assertEqual(self.check(behind, ahead), ((), (2 + 3 * 2, 0 + 3 * 0, 1 + 3 * 1)))

    def test_one_state(self):
        chooser = generator(110)
        for lead in LEADS:
            for _ in range(20):
                self.check(random_machine(chooser, 1, 2, 3, lead), random_machine(chooser, 1, 3, 2, -1 - lead))

    def test_several_states(self):
        chooser = generator(111)
        for lead in LEADS:
            for _ in range(40):
                inputs, outputs = chooser.randint(1, 3), chooser.randint(1, 3)
                machine = random_machine(chooser, chooser.randint(1, 4), inputs, outputs, lead)
                opponent = random_machine(chooser, chooser.randint(1, 4), outputs, inputs, -1 - lead)
                self.check(machine, opponent)

    def test_each_hears_what_the_other_says(self):
        chooser = generator(112)
        for lead in LEADS:
            for _ in range(20):
                machine = random_machine(chooser, 3, 2, 3, lead)
                opponent = random_machine(chooser, 3, 3, 2, -1 - lead)
                lasso = play(machine, opponent)
                heard = relabel(lasso, [letter % 2 for letter in range(6)])
                said = relabel(lasso, [letter // 2 for letter in range(6)])
                self.assertEqual(respond(machine, heard), said)
                self.assertEqual(respond(opponent, said), heard)

    def test_a_long_play(self):
        first = Machine(1, 2, 0, [], [[((state + 1) % 30, 1 if state == 0 else 0)] for state in range(30)])
        second = Machine(2, 1, -1, [0], [[((state + 1) % 7, 0), ((state + 1) % 7, 0)] for state in range(7)])
        self.assertEqual(play(first, second), ((), (1,) + (0,) * 29))
        counter = Machine(2, 2, -1, [0], [[((state + 1) % 31, 0 if state < 30 else 1)] * 2 for state in range(31)])
        echo = Machine(2, 2, 0, [], [[((state + 1) % 30, state // 29), ((state + 1) % 30, state // 29)]
                                     for state in range(30)])
        self.assertEqual(len(self.check(echo, counter, 2000)[1]), 930)


class MismatchTest(unittest.TestCase):
    def machine(self, inputs, outputs, lead):
        return Machine(inputs, outputs, lead, [0] * max(0, -lead), [[(0, 0)] * inputs])

    def test_leads(self):
        for lead in LEADS:
            for other in LEADS:
                if other != -1 - lead:
                    with self.assertRaises(Mismatch):
                        play(self.machine(2, 2, lead), self.machine(2, 2, other))

    def test_letters(self):
        for lead in LEADS:
            play(self.machine(2, 3, lead), self.machine(3, 2, -1 - lead))
            for inputs, outputs in ((2, 3), (2, 2), (3, 3), (4, 2), (3, 1), (6, 4)):
                with self.assertRaises(Mismatch):
                    play(self.machine(2, 3, lead), self.machine(inputs, outputs, -1 - lead))


if __name__ == "__main__":
    unittest.main()
