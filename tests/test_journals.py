"""Points 28, 42 and 43 and the interface of reactivesynth/journals.py."""

import unittest

from reactivesynth.errors import BadJournal, InvalidLetter
from reactivesynth.journals import Journal, recover
from reactivesynth.machines import Machine
from tests.oracles import slow_said
from tests.samples import generator, machine_parts, random_machine, words

LEADS = (-3, -2, -1, 0, 1, 2)
ECHO = Machine(2, 2, -1, [0], [[(0, 0), (0, 1)]])
COUNTER = Machine(2, 2, 1, [], [[(1, 1), (0, 0)], [(2, 0), (1, 1)], [(0, 0), (2, 0)]])


def state_after(machine, heard):
    state = 0
    for letter in heard:
        state = machine.rows[state][letter][0]
    return state


def journal_text(machine, spacing, heard):
    """Return the text of point 42 after these letters."""
    lines = [f"journal {spacing}"]
    for count, letter in enumerate(heard, 1):
        lines.append(f"heard {letter}")
        if count % spacing == 0:
            lines.append(f"state {count} {state_after(machine, heard[:count])}")
    return "".join(line + "\n" for line in lines)


def told(journal, heard):
    return [journal.hear(letter) for letter in heard]


class JournalCase(unittest.TestCase):
    def check(self, journal, machine, spacing, heard):
        """Check everything that can be seen of a journal that has heard these letters."""
        self.assertEqual(machine_parts(journal.machine), machine_parts(machine))
        self.assertEqual(journal.spacing, spacing)
        self.assertEqual(journal.text, journal_text(machine, spacing, heard))
        self.assertEqual(journal.state, state_after(machine, heard))
        self.assertEqual(journal.said, tuple(slow_said(machine, heard)))
        self.assertIs(type(journal.said), tuple)


class JournalTest(JournalCase):
    def test_example(self):
        journal = Journal(ECHO, spacing=2)
        found = told(journal, [1, 0, 1])
        again = recover(ECHO, journal.text[:30])
        self.assertEqual((found, journal.said, again.said, again.text),
                         ([[1], [0], [1]], (0, 1, 0, 1), (0, 1, 0), "journal 2\nheard 1\nheard 0\nstate 2 0\n"))

    def test_a_new_journal(self):
        self.check(Journal(ECHO), ECHO, 4, [])
        self.assertEqual(Journal(ECHO).text, "journal 4\n")
        self.check(Journal(COUNTER, spacing=1), COUNTER, 1, [])
        self.assertIsInstance(vars(Journal)["said"], property)

    def test_the_text_after_each_letter(self):
        chooser = generator(370)
        for spacing in (1, 2, 3, 4, 5, 7, 10, 11, 19, 20, 21, 1000, 10 ** 18):
            for _ in range(6):
                lead = chooser.choice(LEADS)
                machine = random_machine(chooser, chooser.randint(1, 12), chooser.randint(1, 12), 3, lead)
                journal = Journal(machine, spacing=spacing)
                heard = []
                for _ in range(22):
                    heard.append(chooser.randrange(machine.inputs))
                    journal.hear(heard[-1])
                    self.check(journal, machine, spacing, heard)

    def test_the_spacing_left_out(self):
        journal, heard = Journal(COUNTER), [0, 1, 1, 0, 0, 0, 1, 0, 1]
        for count, letter in enumerate(heard, 1):
            journal.hear(letter)
            self.check(journal, COUNTER, 4, heard[:count])
        self.assertEqual(journal.text, "journal 4\nheard 0\nheard 1\nheard 1\nheard 0\nstate 4 2\nheard 0\nheard 0\n"
                                       "heard 1\nheard 0\nstate 8 2\nheard 1\n")

    def test_what_is_returned_and_said(self):
        chooser = generator(371)
        for lead in LEADS:
            for _ in range(10):
                machine = random_machine(chooser, 3, 3, 4, lead)
                journal = Journal(machine, spacing=chooser.randint(1, 5))
                self.assertEqual(journal.said, machine.opening)
                heard = []
                for count in range(8):
                    before = journal.said
                    heard.append(chooser.randrange(3))
                    found = journal.hear(heard[-1])
                    self.assertIs(type(found), list)
                    self.assertEqual(len(found), 0 if count < lead else 1)
                    self.assertEqual(before + tuple(found), journal.said)
                    self.assertEqual(list(journal.said), machine(heard))

    def test_a_returned_list_is_new(self):
        journal = Journal(ECHO)
        journal.hear(1).append(7)
        self.assertEqual((journal.said, journal.hear(1)), ((0, 1), [1]))

    def test_very_long_numbers(self):
        great = 10 ** 5000
        journal = Journal(ECHO, spacing=great)
        self.assertEqual(journal.text, "journal 1" + "0" * 5000 + "\n")
        self.assertEqual(journal.hear(1), [1])
        self.assertEqual(journal.text, "journal 1" + "0" * 5000 + "\nheard 1\n")
        text = "journal 1" + "0" * 3900 + "\nheard 1\nheard 0\n"
        self.assertEqual((recover(ECHO, text).text, recover(ECHO, text).spacing), (text, 10 ** 3900))

    def test_invalid_letters_change_nothing(self):
        for machine in (ECHO, COUNTER):
            journal = Journal(machine, spacing=2)
            told(journal, [0, 1, 1])
            for letter in (2, -1, 3, -2, 10 ** 30):
                with self.assertRaises(InvalidLetter):
                    journal.hear(letter)
                self.check(journal, machine, 2, [0, 1, 1])
            told(journal, [1])
            self.check(journal, machine, 2, [0, 1, 1, 1])
            with self.assertRaises(InvalidLetter):
                Journal(machine).hear(2)

    def test_two_journals_of_one_machine(self):
        before = machine_parts(COUNTER)
        first, second = Journal(COUNTER, spacing=1), Journal(COUNTER, spacing=3)
        one, two = [], []
        for letter in (0, 1, 1, 0, 0, 1):
            first.hear(letter)
            one.append(letter)
            self.check(second, COUNTER, 3, two)
            second.hear(1 - letter)
            two.append(1 - letter)
            self.check(first, COUNTER, 1, one)
        self.assertEqual(machine_parts(COUNTER), before)


class RecoverTest(JournalCase):
    def check_recovered(self, machine, text, spacing, heard):
        """Check that recovery gives the journal that has heard the letters, and that it goes on as that one does."""
        again = recover(machine, text)
        self.check(again, machine, spacing, heard)
        self.check(recover(machine, again.text), machine, spacing, heard)
        twin = Journal(machine, spacing=spacing)
        told(twin, heard)
        more = [letter % machine.inputs for letter in (1, 0, 2, 1, 1)]
        for count in range(1, len(more) + 1):
            self.assertEqual(again.hear(more[count - 1]), twin.hear(more[count - 1]))
            self.check(again, machine, spacing, heard + more[:count])
            self.check(twin, machine, spacing, heard + more[:count])

    def kept_letters(self, text):
        """Return the letters in the whole lines of a beginning of a text."""
        return [int(line.split()[1]) for line in text.split("\n")[:-1] if line.startswith("heard")]

    def test_a_text_cut_off_behind_each_character(self):
        chooser = generator(372)
        for lead in LEADS:
            for spacing in (1, 2, 3, 5, 12, 100):
                machine = random_machine(chooser, 4, 11, 3, lead)
                text = journal_text(machine, spacing, [chooser.randrange(11) for _ in range(7)])
                for end in range(len(text) + 1):
                    kept = text[:end]
                    self.check_recovered(machine, kept, spacing if "\n" in kept else 4, self.kept_letters(kept))

    def test_other_characters_behind_the_last_line_feed(self):
        text = journal_text(COUNTER, 2, [1, 0, 0])
        for rest in ("x", "heard 7", "heard 1", "state 3 0", " ", "journal 2", "heard -1 /", "state"):
            for lines in range(1, text.count("\n") + 1):
                kept = "".join(line + "\n" for line in text.split("\n")[:lines])
                self.check_recovered(COUNTER, kept + rest, 2, self.kept_letters(kept))

    def test_without_a_line_feed(self):
        for text in ("", "j", "journal", "journal ", "journal 7", "journal 12", "journal 0", "heard 1", "x", " ",
                     "state"):
            self.check_recovered(COUNTER, text, 4, [])
            self.assertEqual(recover(COUNTER, text).text, "journal 4\n")

    def test_the_missing_state_is_added(self):
        for machine in (ECHO, COUNTER):
            for spacing, heard in ((1, [1]), (2, [0, 1]), (2, [0, 1, 1, 1]), (3, [0, 0, 1]), (1, [0, 0])):
                text = journal_text(machine, spacing, heard)
                without = text[:text[:-1].rfind("\n") + 1]
                self.assertTrue(without.endswith(f"heard {heard[-1]}\n"))
                self.check_recovered(machine, without, spacing, heard)
                self.assertEqual(recover(machine, without).text, text)
        self.assertEqual(recover(ECHO, "journal 3\nheard 0\nheard 1\n").text, "journal 3\nheard 0\nheard 1\n")
        self.assertEqual(recover(ECHO, "journal 3\n").text, "journal 3\n")

    def test_the_arguments_stay(self):
        before = machine_parts(COUNTER)
        text = journal_text(COUNTER, 2, [1, 0, 0])
        recover(COUNTER, text).hear(1)
        self.check(recover(COUNTER, text), COUNTER, 2, [1, 0, 0])
        self.assertEqual(machine_parts(COUNTER), before)


class WrongTextTest(JournalCase):
    def check_bad(self, machine, *texts):
        for text in texts:
            with self.subTest(text):
                with self.assertRaises(BadJournal):
                    recover(machine, text)

    def test_the_first_line(self):
        for line in ("", " ", "journal", "journal ", "journal 0", "journal 00", "journal 02", "journal -1",
                     "journal +1", "journal  2", "journal 2 ", " journal 2", "journal2", "journal 2 2", "journal 2x",
                     "journal x", "Journal 2", "journal 2.", "journal 1_0", "heard 1", "state 0 0",
                     "journal -0", "journa 2"):
            self.check_bad(ECHO, line + "\n", line + "\nheard 1\n", line + "\nx")

    def test_the_other_lines(self):
        for line in ("", " ", "heard", "heard ", "heard 2", "heard 10", "heard -1", "heard +1", "heard 01", "heard 00",
                     "heard  1", "heard 1 ", " heard 1", "heard1", "heard 1 1", "heard x", "Heard 1", "heard 1.",
                     "heard -0", "journal 3", "state 1 0", "state 3 0", "state 0 0", "state", "state 2 0", "head 1"):
            self.check_bad(ECHO, f"journal 3\n{line}\n", f"journal 3\nheard 1\n{line}\n",
                           f"journal 3\nheard 1\nheard 1\n{line}\nheard 1\nstate 3 0\n",
                           f"journal 3\nheard 0\n{line}\nx")

    def test_the_lines_with_a_state(self):
        # The machine is in state 1 after the letters 0 and 1.
        begin = "journal 2\nheard 0\nheard 1\n"
        self.assertEqual(recover(COUNTER, begin).text, begin + "state 2 1\n")
        for line in ("state 2 0", "state 2 2", "state 2 3", "state 1 1", "state 3 1", "state 4 1", "state 0 1", "state",
                     "state ", "state 2", "state 2 ", "state  2 1", "state 2  1", "state 2 1 ", " state 2 1",
                     "state 02 1", "state 2 01", "state -2 1", "state 2 -1", "state +2 1", "state 2 +1", "state 2,1",
                     "state2 1", "State 2 1", "state 2 1 1", "state 1 2", "state x y", ""):
            self.check_bad(COUNTER, f"{begin}{line}\n", f"{begin}{line}\nheard 1\n", f"{begin}{line}\nx")

    def test_lines_with_a_state_that_are_missing_or_too_many(self):
        good = journal_text(COUNTER, 2, [0, 1, 1, 0, 1])
        lines = good.split("\n")[:-1]
        self.assertEqual([at for at, line in enumerate(lines) if line.startswith("state")], [3, 6])
        for at in (3, 6):
            self.check_bad(COUNTER, "".join(line + "\n" for line in lines[:at] + lines[at + 1:]),
                           "".join(line + "\n" for line in lines[:at + 1] + lines[at:]))
        for at in (1, 2, 5, 8):
            for state in range(3):
                more = lines[:at] + [f"state {len(lines[1:at])} {state}"] + lines[at:]
                self.check_bad(COUNTER, "".join(line + "\n" for line in more))
        self.check_bad(COUNTER, good + "state 5 0\n", good + "state 5 1\n", good + "state 5 2\n", good + "state 4 0\n")
        self.check_bad(COUNTER, journal_text(COUNTER, 3, [0, 1, 1]).replace("journal 3", "journal 2"),
                       journal_text(COUNTER, 2, [0, 1, 1]).replace("journal 2", "journal 3"))

    def test_the_journal_of_another_machine(self):
        text = journal_text(COUNTER, 2, [0, 0])
        self.check_bad(ECHO, text)
        self.check_bad(Machine(1, 1, 0, [], [[(0, 0)]]), "journal 9\nheard 1\n")

    def test_exactly_the_beginnings_are_right(self):
        # All beginnings that can come of a change at one place of one of the texts below.
        right = {""}
        for spacing in range(1, 100):
            for heard in words(2, 3):
                lines = journal_text(COUNTER, spacing, heard).split("\n")[:-1]
                right |= {"".join(line + "\n" for line in lines[:count]) for count in range(1, len(lines) + 1)}
        for spacing, heard in ((1, [0, 1]), (2, [1, 0, 0]), (2, [0, 0]), (3, [1, 1])):
            text = journal_text(COUNTER, spacing, heard)
            for at in range(len(text) + 1):
                changed = [text[:at] + text[at + 1:], text[:at] + text[at:at + 1] + text[at:]]
                for character in "\n 0129-h":
                    changed += [text[:at] + character + text[at + 1:], text[:at] + character + text[at:]]
                for other in changed:
                    if other[:other.rfind("\n") + 1] in right:
                        recover(COUNTER, other)
                    else:
                        self.check_bad(COUNTER, other)


if __name__ == "__main__":
    unittest.main()
