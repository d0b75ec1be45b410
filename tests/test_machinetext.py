"""Point 32 and the interface of reactivesynth/machinetext.py."""

import unittest

from reactivesynth.errors import MachineSyntaxError
from reactivesynth.machines import Machine
from reactivesynth.machinetext import format_machine, parse_machine
from tests.samples import generator, machine_parts, random_machine

LEADS = (-3, -2, -1, 0, 1, 2)
ECHO = "machine 2 2 -1\nopening 0\n0/0 0/1\n"


class FormatTest(unittest.TestCase):
    def test_examples(self):
        self.assertEqual(format_machine(Machine(1, 2, 0, [], [[(1, 0)], [(0, 1)]])),
                         "machine 1 2 0\nopening\n1/0\n0/1\n")
        self.assertEqual(format_machine(Machine(2, 2, -1, [0], [[(0, 0), (0, 1)]])), ECHO)

    def test_several_letters_and_states(self):
        machine = Machine(3, 20, -3, [7, 0, 19], [[(1, 0), (0, 11), (1, 2)], [(0, 3), (1, 19), (0, 0)]])
        self.assertEqual(format_machine(machine), "machine 3 20 -3\nopening 7 0 19\n1/0 0/11 1/2\n0/3 1/19 0/0\n")

    def test_positive_lead(self):
        self.assertEqual(format_machine(Machine(1, 1, 2, [], [[(0, 0)]])), "machine 1 1 2\nopening\n0/0\n")


class ParseTest(unittest.TestCase):
    def test_examples(self):
        self.assertEqual(machine_parts(parse_machine(ECHO)), (2, 2, -1, (0,), (((0, 0), (0, 1)),)))
        self.assertEqual(machine_parts(parse_machine("machine 1 2 0\nopening\n1/0\n0/1\n")),
                         (1, 2, 0, (), (((1, 0),), ((0, 1),))))

    def test_every_printed_text(self):
        chooser = generator(130)
        for lead in LEADS:
            for _ in range(40):
                machine = random_machine(chooser, chooser.randint(1, 12), chooser.randint(1, 4),
                                         chooser.randint(1, 30), lead)
                again = parse_machine(format_machine(machine))
                self.assertIs(type(again), Machine)
                self.assertEqual(machine_parts(again), machine_parts(machine))

    def test_great_numbers(self):
        great = 10 ** 60
        machine = Machine(1, great, -2, [great - 1, 0], [[(0, great - 1)]])
        self.assertEqual(machine_parts(parse_machine(format_machine(machine))), machine_parts(machine))

    def check_wrong(self, texts):
        for text in texts:
            with self.subTest(text):
                with self.assertRaises(MachineSyntaxError):
                    parse_machine(text)

    def test_line_feeds(self):
        self.check_wrong(("", "\n", "\n\n\n", "machine 2 2 -1", "machine 2 2 -1\n", "machine 2 2 -1\nopening 0\n",
                          "machine 2 2 -1\nopening 0", "machine 2 2 -1\nopening 0\n\n", ECHO[:-1], ECHO + "\n",
                          "\n" + ECHO, ECHO + " ", ECHO + "0/0", "machine 2 2 -1\n\nopening 0\n0/0 0/1\n",
                          "machine 2 2 -1\nopening 0\n\n0/0 0/1\n", "machine 2 2 -1 opening 0\n0/0 0/1\n",
                          "machine 2 2 -1\nopening 0 0/0 0/1\n", "machine 2 2 -1\nopening 0\n0/0\n0/1\n"))

    def test_first_line(self):
        for line in ("", "machine", "machine ", "machine 2", "machine 2 2", "machine 2 2 ", "machine 2 2 -1 ",
                     " machine 2 2 -1", "machine  2 2 -1", "machine 2  2 -1", "machine 2 2  -1", "machine 2 2 -1 0",
                     "machines 2 2 -1", "Machine 2 2 -1", "machin 2 2 -1", "2 2 -1", "machine2 2 -1",
                     "machine 02 2 -1", "machine 2 02 -1", "machine 2 2 -01", "machine 2 2 - 1", "machine 2 2 --1",
                     "machine +2 2 -1", "machine 2 +2 -1", "machine 2 2 +1", "machine -2 2 -1", "machine 2 -2 -1",
                     "machine 2 2 1", "machine 2 2 0", "machine 2 2 -2", "machine 2 2 -4", "machine 2 2 3",
                     "machine 1 2 -1", "machine 3 2 -1", "machine 0 2 -1", "machine 2 0 -1", "machine 2 1 -1",
                     "machine 2.0 2 -1", "machine 2 2_0 -1", "machine a 2 -1", "machine 2 b -1", "machine 2 2 c",
                     "machine 2 2 -", "machine 2/2 -1", "machine 2 2 -1.", "machine 0x2 2 -1", "machine 2e0 2 -1"):
            self.check_wrong((line + "\nopening 0\n0/0 0/1\n",))

    def test_a_minus_sign_before_0(self):
        self.assertEqual(parse_machine("machine 1 1 0\nopening\n0/0\n").lead, 0)
        self.check_wrong(("machine 1 1 -0\nopening\n0/0\n", "machine -0 1 0\nopening\n0/0\n",
                          "machine 1 1 0\nopening\n-0/0\n", "machine 1 1 0\nopening\n0/-0\n",
                          "machine 1 1 -1\nopening -0\n0/0\n"))

    def test_leads_beyond_the_bounds(self):
        for lead in (-4, 3, -10, 12):
            opening = "opening" + " 0" * max(0, -lead)
            self.check_wrong((f"machine 1 1 {lead}\n{opening}\n0/0\n", f"machine 1 1 {lead}\nopening\n0/0\n"))

    def test_opening(self):
        for line in ("", "opening", "opening ", "opening 0 ", " opening 0", "opening  0", "opening 0 0", "opening 2",
                     "opening -1", "opening +0", "opening 00", "opening 01", "opening a", "opening0", "Opening 0",
                     "openin 0", "openings 0", "0", "opening 0,", "opening 0/0", "opening 1_0"):
            self.check_wrong(("machine 2 2 -1\n" + line + "\n0/0 0/1\n",))
        self.check_wrong(("machine 1 1 0\nopening 0\n0/0\n", "machine 1 1 0\nopening \n0/0\n",
                          "machine 1 2 -2\nopening 0\n0/0\n", "machine 1 2 -2\nopening 0 1 1\n0/0\n",
                          "machine 1 2 1\nopening 0\n0/0\n", "machine 1 2 -3\nopening 0 1\n0/0\n"))

    def test_rows(self):
        for line in ("", " ", "0/0", "0/0 0/1 0/0", "0/0  0/1", " 0/0 0/1", "0/0 0/1 ", "0/0,0/1", "0/0 0/2", "0/0 1/1",
                     "1/0 0/1", "0/2 0/1", "-1/0 0/1", "0/-1 0/1", "00/0 0/1", "0/00 0/1", "0/0 0/01", "0/0 00/1",
                     "+0/0 0/1", "0/+0 0/1", "0/0 0/", "0/0 /1", "0/0 /", "0/0 0", "0/0 0/1/0", "0//0 0/1", "0 /0 0/1",
                     "0/ 0 0/1", "a/0 0/1", "0/b 0/1", "0:0 0/1", "0\\0 0/1", "state 0/0 0/1", "0/0 0/1x"):
            self.check_wrong(("machine 2 2 -1\nopening 0\n" + line + "\n",))
        self.check_wrong(("machine 1 1 0\nopening\n1/0\n2/0\n", "machine 1 1 0\nopening\n1/0\n0/0 0/0\n",
                          "machine 1 1 0\nopening\n1/0\n\n", "machine 1 1 0\nopening\n1/0\n0/1\n"))

    def test_more_letters_than_a_line_can_have(self):
        self.check_wrong(("machine " + "9" * 5000 + " 2 -1\nopening 0\n0/0 0/1\n",
                          "machine 2 2 -" + "9" * 1000 + "\nopening 0\n0/0 0/1\n",
                          "machine 2 2 -1\nopening " + "9" * 1000 + "\n0/0 0/1\n",
                          "machine 2 2 -1\nopening 0\n" + "9" * 1000 + "/0 0/1\n"))

    def test_whatever_is_read_is_printed_the_same(self):
        texts = (ECHO, "machine 1 12 2\nopening\n1/0\n0/11\n", "machine 2 3 -3\nopening 0 2 1\n1/0 0/2\n1/1 1/0\n")
        for text in texts:
            for place in range(len(text) + 1):
                changed = [text[:place] + text[place + 1:], text[:place], text[:place] + text[place:place + 1] * 2
                           + text[place + 1:]]
                for character in " \n/-+0129am.,":
                    changed.append(text[:place] + character + text[place:])
                    changed.append(text[:place] + character + text[place + 1:])
                for other in changed:
                    self.check_all_or_nothing(other)

    def check_all_or_nothing(self, text):
        """Check that a text is wrong or that it is exactly the text of the machine that is read from it."""
        try:
            machine = parse_machine(text)
        except MachineSyntaxError:
            return
        self.assertEqual(format_machine(machine), text)


if __name__ == "__main__":
    unittest.main()
