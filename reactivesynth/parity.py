"""Deterministic parity automata."""

from reactivesynth.alike import without_alike
from reactivesynth.buchi import built_automaton
from reactivesynth.errors import InvalidAutomaton
from reactivesynth.operations import trim
from reactivesynth.words import check_letters


class ParityAutomaton:
    """A parity automaton over the letters 0, 1, .. letters - 1."""

    def __init__(self, letters, start, priorities, rows):
        if letters < 1:
            raise InvalidAutomaton("there is at least one letter")
        if len(rows) == 0:
            raise InvalidAutomaton("there is at least one state")
        if len(priorities) != len(rows):
            raise InvalidAutomaton("there is one priority for each state")
        check_state(start, len(rows))
        for row in rows:
            if len(row) != letters:
                raise InvalidAutomaton("a row has one entry for each letter")
            for state in row:
                check_state(state, len(rows))
        if min(priorities) < 0:
            raise InvalidAutomaton("a priority is not negative")
        self.letters = letters
        self.start = start
        self.priorities = tuple(priorities)
        self.rows = tuple([tuple(row) for row in rows])


def check_state(state, count):
    """Raise InvalidAutomaton if a number is no state."""
    if state < 0 or state >= count:
        raise InvalidAutomaton("a state is a number from 0 to the number of states minus 1")


def accepts_parity(parity, lasso):
    """Return True if the parity automaton accepts the word of the lasso."""
    check_letters(lasso, parity.letters)
    head, loop = lasso
    state = parity.start
    for letter in head:
        state = parity.rows[state][letter]
    # numbers tells in which round of the loop a state came first, greatest
    # the greatest priority of the run in each round.
    numbers = {}
    greatest = []
    while state not in numbers:
        numbers[state] = len(greatest)
        highest = 0
        for letter in loop:
            highest = max(highest, parity.priorities[state])
            state = parity.rows[state][letter]
        greatest.append(highest)
    return max(greatest[numbers[state]:]) % 2 == 0


def complement_parity(parity):
    """Return the parity automaton that accepts exactly the other words."""
    priorities = [priority + 1 for priority in parity.priorities]
    return ParityAutomaton(parity.letters, parity.start, priorities, parity.rows)


def quotient(parity):
    """Return the parity automaton with one state for each class of alike states."""
    states, rows = without_alike(parity.start, parity.priorities, parity.rows)
    return ParityAutomaton(parity.letters, 0, [parity.priorities[state] for state in states], rows)


def to_buchi(parity):
    """Return a Buchi automaton that accepts the same words.

    A run guesses an even priority that is the greatest from now on, whenever
    a state has it; then it may visit no state with a greater one. The guess
    is -1 before that.
    """
    def moves(state, letter):
        place, guess = state
        target = parity.rows[place][letter]
        priority = parity.priorities[target]
        if guess >= 0:
            return [(target, guess)] if priority <= guess else []
        return [(target, -1), (target, priority)] if priority % 2 == 0 else [(target, -1)]

    def accepting(state):
        return parity.priorities[state[0]] == state[1]

    return trim(built_automaton(parity.letters, [(parity.start, -1)], moves, accepting))
