"""Point 31 and the interface of reactivesynth/minimization.py."""

import unittest

from reactivesynth.errors import Mismatch
from reactivesynth.machines import Machine, respond
from reactivesynth.minimization import minimize, separating_word
from tests.oracles import last_emitted, slow_minimized, slow_separating_word
from tests.samples import generator, machine_parts, random_lasso, random_machine

LEADS = (-3, -2, -1, 0, 1, 2)


class MinimizeTest(unittest.TestCase):
    def test_unreachable_states(self):
        machine = Machine(1, 2, 0, [], [[(2, 0)], [(1, 1)], [(0, 1)]])
        self.assertEqual(machine_parts(minimize(machine)), (1, 2, 0, (), (((1, 0),), ((0, 1),))))

    def test_alike_states(self):
        machine = Machine(2, 2, -1, [1], [[(1, 0), (2, 1)], [(2, 0), (1, 1)], [(0, 0), (0, 1)]])
        self.assertEqual(machine_parts(minimize(machine)), (2, 2, -1, (1,), (((0, 0), (0, 1)),)))

    def test_states_that_differ_late(self):
        rows = [[(1, 0)], [(2, 0)], [(3, 0)], [(4, 0)], [(0, 1)]]
        self.assertEqual(len(minimize(Machine(1, 2, 0, [], rows)).rows), 5)
        rows[4] = [(0, 0)]
        self.assertEqual(len(minimize(Machine(1, 2, 0, [], rows)).rows), 1)

    def test_numbering(self):
        machine = Machine(3, 4, 0, [], [[(3, 0), (2, 0), (0, 0)], [(1, 1), (1, 1), (1, 1)],
                                        [(2, 2), (2, 2), (2, 2)], [(3, 3), (1, 3), (0, 3)]])
        self.assertEqual(minimize(machine).rows, (((1, 0), (2, 0), (0, 0)), ((1, 3), (3, 3), (0, 3)),
                                                  ((2, 2), (2, 2), (2, 2)), ((3, 1), (3, 1), (3, 1))))

    def test_letters_that_are_never_said_count(self):
        # With lead 2 the first two letters are not said.
        for lead in (1, 2):
            machine = Machine(1, 2, lead, [], [[(1, 1)], [(1, 0)]])
            self.assertEqual(minimize(machine).rows, (((1, 1),), ((1, 0),)))

    def test_random_machines(self):
        chooser = generator(120)
        for _ in range(400):
            lead = chooser.choice(LEADS)
            outputs = chooser.choice((1, 2, 2, 3))
            machine = random_machine(chooser, chooser.randint(1, 7), chooser.randint(1, 3), outputs, lead)
            before = machine_parts(machine)
            small = minimize(machine)
            self.assertEqual(machine_parts(machine), before)
            self.assertEqual(machine_parts(small), before[:4] + (slow_minimized(machine),))
            self.assertEqual(machine_parts(minimize(small)), machine_parts(small))
            lasso = random_lasso(chooser, machine.inputs, 4, 4)
            self.assertEqual(respond(small, lasso), respond(machine, lasso))
            self.assertIsNone(separating_word(machine, small))

    def test_copies_of_states(self):
        chooser = generator(121)
        for _ in range(60):
            machine = random_machine(chooser, chooser.randint(1, 4), 2, 2, 0)
            count = len(machine.rows)
            rows = [[(target + count * chooser.randrange(3), said) for target, said in machine.rows[state % count]]
                    for state in range(3 * count)]
            other = Machine(2, 2, 0, [], rows)
            self.assertEqual(minimize(other).rows, minimize(machine).rows)

    def test_many_states(self):
        count = 300
        rows = [[((state + 1) % count, 1 if state == 0 else 0), (state, 0)] for state in range(count)]
        self.assertEqual(len(minimize(Machine(2, 2, 0, [], rows)).rows), count)


class SeparatingWordTest(unittest.TestCase):
    def test_alike_machines(self):
        first = Machine(2, 2, 0, [], [[(0, 0), (0, 1)]])
        second = Machine(2, 2, 0, [], [[(1, 0), (0, 1)], [(0, 0), (1, 1)]])
        self.assertIsNone(separating_word(first, second))
        self.assertIsNone(separating_word(second, first))

    def test_openings(self):
        rows = [[(0, 0), (0, 1)]]
        for first, second in (([0], [1]), ([1, 0], [1, 1]), ([0, 1, 1], [1, 1, 1])):
            lead = -len(first)
            self.assertEqual(separating_word(Machine(2, 2, lead, first, rows), Machine(2, 2, lead, second, rows)), [])
            self.assertIsNone(separating_word(Machine(2, 2, lead, first, rows), Machine(2, 2, lead, first, rows)))
        # The openings come before all letters.
        self.assertEqual(separating_word(Machine(2, 2, -1, [0], rows), Machine(2, 2, -1, [1], [[(0, 1), (0, 1)]])), [])

    def test_letters_that_are_never_said_alone(self):
        first = Machine(1, 2, 2, [], [[(1, 0)], [(2, 0)], [(2, 1)]])
        self.assertEqual(separating_word(first, Machine(1, 2, 2, [], [[(1, 1)], [(2, 0)], [(2, 1)]])), [0])
        self.assertEqual(separating_word(first, Machine(1, 2, 2, [], [[(1, 0)], [(2, 1)], [(2, 1)]])), [0, 0])

    def test_the_shortest_and_first(self):
        same = Machine(3, 2, 0, [], [[(0, 0), (0, 0), (0, 0)]])
        late = Machine(3, 2, 0, [], [[(0, 0), (1, 0), (2, 0)], [(1, 0), (1, 0), (1, 1)], [(2, 1), (2, 0), (2, 0)]])
        self.assertEqual(separating_word(same, late), [1, 2])
        self.assertEqual(separating_word(late, same), [1, 2])
        other = Machine(3, 2, 0, [], [[(0, 0), (1, 0), (2, 1)], [(1, 1), (1, 1), (1, 1)], [(2, 1), (2, 0), (2, 0)]])
        self.assertEqual(separating_word(same, other), [2])
        self.assertEqual(separating_word(late, other), [2])

    def test_random_machines(self):
        chooser = generator(122)
        for _ in range(400):
            lead = chooser.choice((0, 0, 1, 2, -1))
            inputs = chooser.randint(1, 3)
            first = random_machine(chooser, chooser.randint(1, 3), inputs, 2, lead)
            second = random_machine(chooser, chooser.randint(1, 2), inputs, 2, lead)
            word = separating_word(first, second)
            self.assertEqual(word, slow_separating_word(first, second))
            self.assertEqual(separating_word(second, first), word)
            if word:
                self.assertNotEqual(last_emitted(first, word), last_emitted(second, word))

    def test_one_letter_changed(self):
        chooser = generator(123)
        for _ in range(200):
            first = random_machine(chooser, chooser.randint(2, 4), 2, 2, 0)
            rows = [list(row) for row in first.rows]
            state, letter = chooser.randrange(len(rows)), chooser.randrange(2)
            rows[state][letter] = (rows[state][letter][0], 1 - rows[state][letter][1])
            second = Machine(2, 2, 0, [], rows)
            self.assertEqual(separating_word(first, second), slow_separating_word(first, second))

    def test_a_long_word(self):
        count = 200
        first = Machine(2, 2, 0, [], [[((state + 1) % count, 0), (0, 0)] for state in range(count)])
        rows = [list(row) for row in first.rows]
        rows[count - 1][1] = (0, 1)
        self.assertEqual(separating_word(first, Machine(2, 2, 0, [], rows)), [0] * (count - 1) + [1])

    def test_each_list_is_new(self):
        machines = Machine(1, 2, 0, [], [[(0, 0)]]), Machine(1, 2, 0, [], [[(0, 1)]])
        separating_word(*machines).append(5)
        self.assertEqual(separating_word(*machines), [0])

    def test_mismatch(self):
        machine = Machine(2, 2, 0, [], [[(0, 0), (0, 1)]])
        for other in (Machine(1, 2, 0, [], [[(0, 0)]]), Machine(3, 2, 0, [], [[(0, 0)] * 3]),
                      Machine(2, 3, 0, [], [[(0, 0), (0, 1)]]), Machine(2, 2, 1, [], [[(0, 0), (0, 1)]]),
                      Machine(2, 2, -1, [0], [[(0, 0), (0, 1)]]), Machine(1, 1, -2, [0, 0], [[(0, 0)]])):
            for pair in ((machine, other), (other, machine)):
                with self.assertRaises(Mismatch):
                    separating_word(*pair)


if __name__ == "__main__":
    unittest.main()
