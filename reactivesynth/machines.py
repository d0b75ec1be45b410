"""Machines, which hear a letter and say a letter in each turn."""

from reactivesynth.errors import InvalidLetter, InvalidMachine
from reactivesynth.words import check_letters, combine, shortest_lasso, suffix

LEAST_LEAD = -3
GREATEST_LEAD = 2


class Machine:
    """A machine, in which a row has a pair of the next state and the emitted letter for each letter that it hears."""

    def __init__(self, inputs, outputs, lead, opening, rows):
        if inputs < 1 or outputs < 1:
            raise InvalidMachine("there is at least one letter to hear and one to say")
        if lead < LEAST_LEAD or lead > GREATEST_LEAD:
            raise InvalidMachine("a lead is from -3 to 2")
        if len(opening) != max(0, -lead):
            raise InvalidMachine("the opening does not have the length that the lead asks for")
        if len(rows) == 0:
            raise InvalidMachine("there is at least one state")
        check_rows(rows, inputs)
        check_said(list(opening) + [letter for row in rows for _, letter in row], outputs)
        self.inputs = inputs
        self.outputs = outputs
        self.lead = lead
        self.opening = tuple(opening)
        self.rows = tuple([tuple([(target, letter) for target, letter in row]) for row in rows])

    def __call__(self, heard):
        """Return the list of the letters that the machine has said when it has heard exactly these letters."""
        for letter in heard:
            if letter < 0 or letter >= self.inputs:
                raise InvalidLetter("the machine may not hear this letter")
        said = list(self.opening)
        _, emitted = run(self, 0, heard)
        # With a positive lead the first letters are emitted before turn 0 can be answered.
        said.extend(emitted[max(0, self.lead):])
        return said


def check_rows(rows, inputs):
    """Raise InvalidMachine if a row has not one entry for each letter, or a next state is no state."""
    for row in rows:
        if len(row) != inputs:
            raise InvalidMachine("a row has one entry for each letter that the machine may hear")
    for row in rows:
        for target, _ in row:
            if target < 0 or target >= len(rows):
                raise InvalidMachine("a state is a number from 0 to the number of states minus 1")


def check_said(letters, outputs):
    """Raise InvalidMachine unless all these letters may be said."""
    for letter in letters:
        if letter < 0 or letter >= outputs:
            raise InvalidMachine("the machine may not say this letter")


def run(machine, state, heard):
    """Return the state after letters that are heard in a state, and the list of the letters emitted for them."""
    emitted = []
    for letter in heard:
        state, said = machine.rows[state][letter]
        emitted.append(said)
    return state, emitted


def respond(machine, lasso):
    """Return the lasso of the word that the machine says when it hears the word of the lasso."""
    check_letters(lasso, machine.inputs)
    head, loop = shortest_lasso(lasso[0], lasso[1])
    state, emitted = run(machine, 0, head)
    # begins tells how many letters were emitted when the loop began in a state.
    begins = {}
    while state not in begins:
        begins[state] = len(emitted)
        state, more = run(machine, state, loop)
        emitted.extend(more)
    back = begins[state]
    word = shortest_lasso(list(machine.opening) + emitted[:back], emitted[back:])
    return suffix(word, max(0, machine.lead))


def trace(machine, lasso):
    """Return the lasso of the trace of the machine when it hears the word of the lasso."""
    return combine(lasso, respond(machine, lasso), machine.inputs)
