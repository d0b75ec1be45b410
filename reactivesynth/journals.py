"""Journals, from which the run of a machine can be resumed after a crash."""

from reactivesynth.decimals import decimal
from reactivesynth.errors import BadJournal, InvalidLetter
from reactivesynth.reading import natural

FIRST_WORD = "journal "
HEARD = "heard "
STATE = "state "


class Journal:
    """Runs a machine and writes down what it hears and, after every so many letters, its state."""

    def __init__(self, machine, *, spacing=4):
        self.machine = machine
        self.spacing = spacing
        self.text = FIRST_WORD + decimal(spacing) + "\n"
        self.state = 0
        self.turns = 0
        self.answers = list(machine.opening)

    @property
    def said(self):
        """The tuple of all letters that the machine has said so far."""
        return tuple(self.answers)

    def hear(self, letter):
        """Let the machine hear a letter, and return the list of the letters that it says then."""
        if letter < 0 or letter >= self.machine.inputs:
            raise InvalidLetter("the machine may not hear this letter")
        self.state, emitted = self.machine.rows[self.state][letter]
        self.turns += 1
        self.text += HEARD + decimal(letter) + "\n"
        if self.turns % self.spacing == 0:
            self.text += STATE + decimal(self.turns) + " " + decimal(self.state) + "\n"
        # With a positive lead the first letters are emitted before turn 0 can be answered.
        if self.turns <= self.machine.lead:
            return []
        self.answers.append(emitted)
        return [emitted]


def recover(machine, text):
    """Return the journal after a crash that kept this text."""
    kept = text[:text.rfind("\n") + 1]
    if kept == "":
        return Journal(machine)
    lines = kept.split("\n")[:-1]
    journal = Journal(machine, spacing=read_spacing(lines[0]))
    for line in lines[1:]:
        if not line.startswith(STATE):
            journal.hear(read_heard(line, machine))
    # Only the state after the last letter may be missing, and it is there again now.
    if not journal.text.startswith(kept):
        raise BadJournal("the states are not those of a journal of this machine")
    return journal


def read_spacing(line):
    """Return the spacing that the first line writes."""
    spacing = read_number(line, FIRST_WORD)
    if spacing < 1:
        raise BadJournal("a spacing is at least 1")
    return spacing


def read_heard(line, machine):
    """Return the letter that a line writes."""
    letter = read_number(line, HEARD)
    if letter >= machine.inputs:
        raise BadJournal("the machine may not hear this letter")
    return letter


def read_number(line, word):
    """Return the number behind the word with which a line begins."""
    number = natural(line[len(word):]) if line.startswith(word) else None
    if number is None:
        raise BadJournal("a line is a word and a number without leading zeros, with one space between them")
    return number
