"""Points 27 to 29 and the interface of reactivesynth/machines.py."""

import unittest

from reactivesynth.errors import InvalidLetter, InvalidMachine
from reactivesynth.machines import Machine, respond, trace
from reactivesynth.words import letter_at, make_lasso
from tests.oracles import slow_said
from tests.samples import generator, lassos, machine_parts, random_lasso, random_machine, unrolled, words

LEADS = (-3, -2, -1, 0, 1, 2)
OPENINGS = {-3: [1, 0, 1], -2: [1, 0], -1: [1], 0: [], 1: [], 2: []}


def echo(lead):
    """Return a machine that emits what it hears, with letters 0, 1 and 2."""
    return Machine(3, 3, lead, OPENINGS[lead], [[(0, 0), (0, 1), (0, 2)]])


class MachineTest(unittest.TestCase):
    def test_attributes(self):
        machine = Machine(2, 3, -2, [2, 0], [[(1, 0), (0, 2)], [(0, 1), (1, 1)]])
        self.assertEqual(machine_parts(machine), (2, 3, -2, (2, 0), (((1, 0), (0, 2)), ((0, 1), (1, 1)))))
        for value in (machine.opening, machine.rows, machine.rows[0], machine.rows[0][0]):
            self.assertIs(type(value), tuple)

    def test_later_changes_have_no_effect(self):
        opening, rows = [1], [[(0, 0), (0, 1)]]
        machine = Machine(2, 2, -1, opening, rows)
        opening[0] = 0
        opening.append(0)
        rows[0][0] = (0, 1)
        rows.append([(0, 0), (0, 0)])
        self.assertEqual(machine_parts(machine), (2, 2, -1, (1,), (((0, 0), (0, 1)),)))

    def test_every_lead(self):
        for lead in LEADS:
            self.assertEqual(echo(lead).lead, lead)
            self.assertEqual(echo(lead).opening, tuple(OPENINGS[lead]))

    def test_leads_beyond(self):
        for lead, opening in ((-4, [0, 0, 0, 0]), (-4, [0, 0, 0]), (3, []), (3, [0]), (10, []), (-10, [0] * 10)):
            with self.assertRaises(InvalidMachine):
                Machine(2, 2, lead, opening, [[(0, 0), (0, 1)]])

    def test_openings_of_another_length(self):
        for lead in LEADS:
            for length in range(6):
                if length != max(0, -lead):
                    with self.assertRaises(InvalidMachine):
                        Machine(2, 2, lead, [0] * length, [[(0, 0), (0, 1)]])

    def test_wrong_machines(self):
        for name, arguments in (
                ("nothing to hear", (0, 1, 0, [], [[]])),
                ("inputs negative", (-1, 1, 0, [], [[]])),
                ("nothing to say", (1, 0, 0, [], [[(0, 0)]])),
                ("outputs negative", (1, -1, 0, [], [[(0, 0)]])),
                ("no state", (1, 1, 0, [], [])),
                ("no state but an opening", (1, 1, -1, [0], [])),
                ("short row", (2, 1, 0, [], [[(0, 0), (0, 0)], [(0, 0)]])),
                ("long row", (1, 1, 0, [], [[(0, 0), (0, 0)]])),
                ("empty row", (1, 1, 0, [], [[]])),
                ("state too large", (1, 1, 0, [], [[(1, 0)]])),
                ("state negative", (2, 1, 0, [], [[(0, 0), (-1, 0)]])),
                ("letter too large", (1, 2, 0, [], [[(0, 2)]])),
                ("letter negative", (2, 2, 0, [], [[(0, 1), (0, -1)]])),
                ("letter of the opening too large", (1, 2, -2, [0, 2], [[(0, 0)]])),
                ("letter of the opening negative", (1, 2, -1, [-1], [[(0, 0)]])),
                ("many things", (0, 0, 7, [9], []))):
            with self.subTest(name):
                with self.assertRaises(InvalidMachine):
                    Machine(*arguments)

    def test_more_letters_to_hear_than_a_row_can_have(self):
        with self.assertRaises(InvalidMachine):
            Machine(10 ** 30, 1, 0, [], [[(0, 0)]])
        self.assertEqual(Machine(1, 10 ** 30, 0, [], [[(0, 10 ** 30 - 1)]])([0]), [10 ** 30 - 1])


class CallTest(unittest.TestCase):
    def test_examples(self):
        echo_later = Machine(2, 2, -1, [0], [[(0, 0), (0, 1)]])
        self.assertEqual(echo_later([1, 1, 0]), [0, 1, 1, 0])
        ahead = Machine(2, 2, 1, [], [[(0, 0), (0, 1)]])
        self.assertEqual((ahead([1, 1, 0]), respond(ahead, ((0,), (1, 1, 0)))), ([1, 0], ((), (1, 1, 0))))

    def test_the_table(self):
        heard = [2, 1, 2, 0]
        for lead, steps in ((2, ([], [], [], [2], [2, 0])),
                            (1, ([], [], [1], [1, 2], [1, 2, 0])),
                            (0, ([], [2], [2, 1], [2, 1, 2], [2, 1, 2, 0])),
                            (-1, ([1], [1, 2], [1, 2, 1], [1, 2, 1, 2], [1, 2, 1, 2, 0])),
                            (-2, ([1, 0], [1, 0, 2], [1, 0, 2, 1], [1, 0, 2, 1, 2], [1, 0, 2, 1, 2, 0])),
                            (-3, ([1, 0, 1], [1, 0, 1, 2], [1, 0, 1, 2, 1], [1, 0, 1, 2, 1, 2],
                                  [1, 0, 1, 2, 1, 2, 0]))):
            for length, expected in enumerate(steps):
                with self.subTest((lead, length)):
                    self.assertEqual(echo(lead)(heard[:length]), expected)

    def test_states(self):
        # It says how often it has heard 1, up to 2, when it hears 0, and else nothing but 3.
        rows = [[(0, 0), (1, 3)], [(1, 1), (2, 3)], [(2, 2), (2, 3)]]
        self.assertEqual(Machine(2, 4, 0, [], rows)([0, 1, 0, 0, 1, 1, 0]), [0, 3, 1, 1, 3, 3, 2])
        self.assertEqual(Machine(2, 4, 2, [], rows)([0, 1, 0, 0, 1, 1, 0]), [1, 1, 3, 3, 2])
        self.assertEqual(Machine(2, 4, -2, [3, 0], rows)([0, 1, 0]), [3, 0, 0, 3, 1])

    def test_random_machines(self):
        chooser = generator(100)
        for lead in LEADS:
            for _ in range(30):
                inputs = chooser.randint(1, 3)
                machine = random_machine(chooser, chooser.randint(1, 4), inputs, chooser.randint(1, 4), lead)
                for word in words(inputs, 4):
                    self.assertEqual(machine(list(word)), slow_said(machine, word))

    def test_calls_do_not_remember(self):
        machine = Machine(2, 2, 0, [], [[(1, 0), (1, 0)], [(0, 1), (0, 1)]])
        for _ in range(3):
            self.assertEqual(machine([0, 0, 0]), [0, 1, 0])
        said = echo(-1)([2])
        said.append(0)
        self.assertEqual(echo(-1)([2]), [1, 2])

    def test_the_list_stays(self):
        heard = [1, 0]
        echo(-2)(heard)
        self.assertEqual(heard, [1, 0])

    def test_wrong_letters(self):
        for lead in LEADS:
            for wrong in (-1, 3, 10 ** 20):
                for place in range(4):
                    heard = [0, 1, 2]
                    heard.insert(place, wrong)
                    with self.assertRaises(InvalidLetter):
                        echo(lead)(heard)


class RespondTest(unittest.TestCase):
    def test_each_lead(self):
        lasso = ((2, 0), (1, 2, 0))
        for lead, expected in ((2, ((), (1, 2, 0))), (1, ((), (0, 1, 2))), (0, ((), (2, 0, 1))),
                               (-1, ((), (1, 2, 0))), (-2, ((1, 0), (2, 0, 1))), (-3, ((1,), (0, 1, 2)))):
            with self.subTest(lead):
                self.assertEqual(respond(echo(lead), lasso), expected)

    def test_against_the_call(self):
        chooser = generator(101)
        for lead in LEADS:
            for _ in range(40):
                inputs = chooser.randint(1, 3)
                machine = random_machine(chooser, chooser.randint(1, 4), inputs, chooser.randint(1, 3), lead)
                lasso = random_lasso(chooser, inputs, 3, 3)
                said = respond(machine, lasso)
                self.assertEqual(make_lasso(*said), said)
                expected = machine(unrolled(lasso, 60))
                self.assertEqual(unrolled(said, len(expected)), expected)
                self.assertEqual(expected, slow_said(machine, unrolled(lasso, 60)))

    def test_all_short_lassos_in_any_form(self):
        machine = Machine(2, 3, -1, [2], [[(1, 0), (0, 1)], [(2, 2), (0, 0)], [(2, 1), (1, 2)]])
        for lasso in lassos(2, 2, 3):
            said = respond(machine, lasso)
            self.assertEqual(respond(machine, make_lasso(*lasso)), said)
            self.assertEqual(respond(machine, (lasso[0] + lasso[1], lasso[1] * 3)), said)
            self.assertEqual(unrolled(said, 30), slow_said(machine, unrolled(lasso, 30))[:30])

    def test_a_loop_that_needs_many_rounds(self):
        count = 50
        machine = Machine(1, 2, 0, [], [[((state + 1) % count, 1 if state == 7 else 0)] for state in range(count)])
        self.assertEqual(respond(machine, ((), (0, 0, 0))), ((), (0,) * 7 + (1,) + (0,) * 42))

    def test_letters_that_are_too_large(self):
        for lead in LEADS:
            for lasso in (((3,), (0,)), ((0, 4), (0,)), ((), (3,)), ((1,), (0, 3)), ((1,), (5, 0))):
                for function in (respond, trace):
                    with self.assertRaises(InvalidLetter):
                        function(echo(lead), lasso)


class TraceTest(unittest.TestCase):
    def test_letter_by_letter(self):
        chooser = generator(102)
        for lead in LEADS:
            for _ in range(40):
                inputs = chooser.randint(1, 4)
                machine = random_machine(chooser, chooser.randint(1, 4), inputs, chooser.randint(1, 3), lead)
                lasso = random_lasso(chooser, inputs, 4, 4)
                said = respond(machine, lasso)
                whole = trace(machine, lasso)
                self.assertEqual(make_lasso(*whole), whole)
                for turn in range(40):
                    self.assertEqual(letter_at(whole, turn), letter_at(lasso, turn) + inputs * letter_at(said, turn))

    def test_one_letter_to_hear(self):
        machine = Machine(1, 2, 0, [], [[(1, 1)], [(0, 0)]])
        self.assertEqual(trace(machine, ((0,), (0, 0, 0))), ((), (1, 0)))


if __name__ == "__main__":
    unittest.main()
