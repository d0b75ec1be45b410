"""Deterministic parity automata."""

from reactivesynth.buchi import built_automaton
from reactivesynth.errors import InvalidAutomaton
from reactivesynth.graphs import explore
from reactivesynth.operations import trim
from reactivesynth.words import check_letters


class ParityAutomaton:
    """A parity automaton over the letters 0, 1, .. letters - 1."""

    def __init__(self, letters, start, priorities, rows):
        if letters < 1:
            raise InvalidAutomaton("there is at least one letter")
        if len(rows) == 0:
            raise InvalidAutomaton("there is at least one state")
        if len(priorities) != len(rows):
            raise InvalidAutomaton("there is one priority for each state")
        check_state(start, len(rows))
        for row in rows:
            if len(row) != letters:
                raise InvalidAutomaton("a row has one entry for each letter")
            for state in row:
                check_state(state, len(rows))
        if min(priorities) < 0:
            raise InvalidAutomaton("a priority is not negative")
        self.letters = letters
        self.start = start
        self.priorities = tuple(priorities)
        self.rows = tuple([tuple(row) for row in rows])


def check_state(state, count):
    """Raise InvalidAutomaton if a number is no state."""
    if state < 0 or state >= count:
        raise InvalidAutomaton("a state is a number from 0 to the number of states minus 1")


def accepts_parity(parity, lasso):
    """Return True if the parity automaton accepts the word of the lasso."""
    check_letters(lasso, parity.letters)
    head, loop = lasso
    state = parity.start
    for letter in head:
        state = parity.rows[state][letter]
    # numbers tells in which round of the loop a state came first, greatest
    # the greatest priority of the run in each round.
    numbers = {}
    greatest = []
    while state not in numbers:
        numbers[state] = len(greatest)
        highest = 0
        for letter in loop:
            highest = max(highest, parity.priorities[state])
            state = parity.rows[state][letter]
        greatest.append(highest)
    return max(greatest[numbers[state]:]) % 2 == 0


def complement_parity(parity):
    """Return the parity automaton that accepts exactly the other words."""
    priorities = [priority + 1 for priority in parity.priorities]
    return ParityAutomaton(parity.letters, parity.start, priorities, parity.rows)


def quotient(parity):
    """Return the parity automaton with one state for each class of alike states."""
    reached, rows = explore([parity.start], lambda state: parity.rows[state])
    classes = alike_classes([parity.priorities[state] for state in reached], rows)
    # States are numbered in the order in which they are first reached, and so
    # are their classes; so the first member of each class stands for it.
    members = {}
    for state, number in enumerate(classes):
        if number not in members:
            members[number] = state
    chosen = list(members.values())
    priorities = [parity.priorities[reached[state]] for state in chosen]
    small_rows = [[classes[target] for target in rows[state]] for state in chosen]
    return ParityAutomaton(parity.letters, 0, priorities, small_rows)


def alike_classes(labels, rows):
    """Return for each state the number of its class.

    Two states are in one class if every sequence of moves leads from both to
    states with the same label. Classes are numbered by their first members.
    """
    classes = numbered(labels)
    count = -1
    while max(classes) > count:
        count = max(classes)
        classes = numbered([(classes[state], tuple([classes[target] for target in row]))
                            for state, row in enumerate(rows)])
    return classes


def numbered(values):
    """Return the values numbered in the order in which they first occur."""
    numbers = {}
    found = []
    for value in values:
        if value not in numbers:
            numbers[value] = len(numbers)
        found.append(numbers[value])
    return found


def to_buchi(parity):
    """Return a Buchi automaton that accepts the same words.

    A run guesses an even priority that is the greatest from now on, whenever
    a state has it; then it may visit no state with a greater one. The guess
    is -1 before that.
    """
    def moves(state, letter):
        place, guess = state
        target = parity.rows[place][letter]
        priority = parity.priorities[target]
        if guess >= 0:
            return [(target, guess)] if priority <= guess else []
        return [(target, -1), (target, priority)] if priority % 2 == 0 else [(target, -1)]

    def accepting(state):
        return parity.priorities[state[0]] == state[1]

    return trim(built_automaton(parity.letters, [(parity.start, -1)], moves, accepting))
