"""Buchi automata for endless expressions."""

from reactivesynth.buchi import built_automaton
from reactivesynth.masks import numbers_of
from reactivesynth.operations import trim
from reactivesynth.positions import Positions

# Where a state is in a pair of expressions: in the first one, at the first
# letter of one more word of the second one, or further on in such a word.
BEFORE = 0
BEGUN = 1
WITHIN = 2

# The state in which nothing was read; it has the form of the others.
START = (-1, 0, -1)


class Endless:
    """The positions of all pairs of an endless expression.

    A state is a tuple of the number of the pair, of one of the constants
    above, and of the position of the letter that was read last.
    """

    def __init__(self, pairs):
        self.firsts = [Positions(first) for first, _ in pairs]
        self.seconds = [Positions(second) for _, second in pairs]

    def all_letters(self):
        """Return all letters that occur, each occurrence."""
        return [letter for positions in self.firsts + self.seconds for letter in positions.letters]

    def states_after(self, state, letter):
        """Return the states after a state for a letter."""
        if state == START:
            return [after for number in range(len(self.firsts)) for after in self.entries(number, letter)]
        number, part, position = state
        positions = self.firsts[number] if part == BEFORE else self.seconds[number]
        further = positions.at_letter(positions.follows[position], letter)
        found = [(number, BEFORE if part == BEFORE else WITHIN, place) for place in numbers_of(further)]
        if (positions.last >> position) & 1 == 1:
            found.extend(self.beginnings(number, letter))
        return found

    def entries(self, number, letter):
        """Return the states of a pair after the first letter of all."""
        first = self.firsts[number]
        found = [(number, BEFORE, place) for place in numbers_of(first.at_letter(first.first, letter))]
        if first.nullable:
            found.extend(self.beginnings(number, letter))
        return found

    def beginnings(self, number, letter):
        """Return the states after the first letter of a word of the second expression of a pair."""
        second = self.seconds[number]
        return [(number, BEGUN, place) for place in numbers_of(second.at_letter(second.first, letter))]


def endless_automaton(endless, alphabet):
    """Return a Buchi automaton for an endless expression, whose letter k stands for letter k of the alphabet."""
    def moves(state, number):
        return endless.states_after(state, alphabet[number])

    def accepting(state):
        return state[1] == BEGUN

    return trim(built_automaton(len(alphabet), [START], moves, accepting))
