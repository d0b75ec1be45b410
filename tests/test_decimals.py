"""Point 32: decimal numbers without leading zeros, of any length, wherever the program writes a number."""

import unittest

from reactivesynth.decimals import decimal
from reactivesynth.errors import FormulaSyntaxError, SpecSyntaxError
from reactivesynth.machines import Machine
from reactivesynth.machinetext import format_machine, parse_machine
from reactivesynth.reading import natural, whole
from tests.samples import generator, machine_parts


class DecimalTest(unittest.TestCase):
    def test_short_numbers(self):
        for number in list(range(-1200, 1200)) + [10 ** 17, 10 ** 18 - 1, 10 ** 18, 10 ** 18 + 1, 10 ** 36 + 7]:
            for other in (number, -number):
                self.assertEqual(decimal(other), str(other))

    def test_pieces_that_begin_with_zeros(self):
        chooser = generator(300)
        for length in range(1, 120):
            digits = chooser.choice("123456789") + "".join(chooser.choice("0000019") for _ in range(length - 1))
            self.assertEqual(decimal(int(digits)), digits)
            self.assertEqual(decimal(-int(digits)), "-" + digits)

    def test_more_digits_than_python_writes_at_once(self):
        for zeros in (4299, 4300, 4301, 5000, 20000):
            self.assertEqual(decimal(10 ** zeros), "1" + "0" * zeros)
            self.assertEqual(decimal(-10 ** zeros), "-1" + "0" * zeros)
            self.assertEqual(decimal(10 ** zeros - 1), "9" * zeros)
            self.assertEqual(natural(decimal(7 * 10 ** zeros + 13)), 7 * 10 ** zeros + 13)
            self.assertEqual(whole(decimal(-7 * 10 ** zeros)), -7 * 10 ** zeros)


class UseTest(unittest.TestCase):
    def test_the_fault_of_issue_11(self):
        machine = Machine(1, 10 ** 5000, 0, [], [[(0, 10 ** 4999)]])
        text = "machine 1 1" + "0" * 5000 + " 0\nopening\n0/1" + "0" * 4999 + "\n"
        self.assertEqual(format_machine(machine), text)
        self.assertEqual(machine_parts(parse_machine(text)), machine_parts(machine))

    def test_every_letter_of_a_machine(self):
        great = 3 * 10 ** 6000
        machine = Machine(1, great, -2, [great - 1, 10 ** 4400], [[(1, 10 ** 4301 + 5)], [(0, great - 2)]])
        text = ("machine 1 3" + "0" * 6000 + " -2\nopening 2" + "9" * 6000 + " 1" + "0" * 4400
                + "\n1/1" + "0" * 4300 + "5\n0/2" + "9" * 5999 + "8\n")
        self.assertEqual(format_machine(machine), text)
        self.assertEqual(machine_parts(parse_machine(text)), machine_parts(machine))

    def test_messages_of_errors(self):
        for error in (FormulaSyntaxError, SpecSyntaxError):
            self.assertIn("1" + "0" * 5000, str(error(10 ** 5000)))


if __name__ == "__main__":
    unittest.main()
