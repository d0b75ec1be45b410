"""The game of a system against its surroundings, with a parity automaton that reads what both choose."""

from reactivesynth.delays import delayed
from reactivesynth.games import Game
from reactivesynth.graphs import explore
from reactivesynth.solving import solve

# What is to be chosen at a position: a letter that the system hears, or one that it says.
HEAR = 0
SAY = 1


class Arena:
    """The game for a parity automaton over the letters i + inputs * o and a lead, and its solution.

    The surroundings choose the letters i. The system, which is player 0,
    chooses the letters o. A place is a pair of a state of the automaton and
    of the letters that are kept (delays tells which those are) when a letter
    is to be heard. Kept letters that the automaton cannot tell from a lesser
    one are replaced by that one.
    """

    def __init__(self, parity, inputs, lead):
        self.parity = parity
        self.inputs = inputs
        self.outputs = parity.letters // inputs
        self.lead = lead
        heard = [[row[letter::inputs] for row in parity.rows] for letter in range(inputs)]
        said = [[row[letter * inputs:(letter + 1) * inputs] for row in parity.rows] for letter in range(self.outputs)]
        self.heard_as = [heard.index(column) for column in heard]
        self.said_as = [said.index(column) for column in said]
        self.positions, rows = explored_positions(self)
        self.numbers = {position: at for at, position in enumerate(self.positions)}
        self.solution = solve(self.game_with(rows))

    def first_position(self):
        """Return the position before turn 0; with a negative lead the opening is still to be said."""
        return (SAY if self.lead < 0 else HEAR), self.parity.start, ()

    def positions_after(self, position):
        """Return the positions after a position."""
        side, state, kept = position
        if side == HEAR:
            return [self.after_hearing((state, kept), letter) for letter in sorted(set(self.heard_as))]
        if self.lead >= 0:
            # There all states that the system can choose stand in the place of the state.
            return [(HEAR, target, kept) for target in state]
        return [self.after_saying(state, kept + (letter,)) for letter in sorted(set(self.said_as))]

    def after_hearing(self, place, heard):
        """Return the position after a letter was heard at a place."""
        state, kept = place
        if self.lead < 0:
            return SAY, self.parity.rows[state][heard + self.inputs * kept[0]], kept[1:]
        ahead = kept + (self.heard_as[heard],)
        if len(ahead) <= self.lead:
            return HEAR, state, ahead
        return SAY, tuple(sorted(set(self.parity.rows[state][ahead[0]::self.inputs]))), ahead[1:]

    def after_saying(self, state, kept):
        """Return the position with these letters kept; with a negative lead there must be enough of them."""
        return (HEAR if len(kept) == -self.lead else SAY), state, kept

    def game_with(self, rows):
        """Return the game in which each position has the moves in its row."""
        owners = []
        priorities = []
        for side, state, _ in self.positions:
            # Letters are heard again and again, so the least priority elsewhere says nothing.
            owners.append(1 if side == HEAR else 0)
            priorities.append(self.parity.priorities[state] if side == HEAR else 0)
        return Game(owners, priorities, [sorted(set(row)) for row in rows])

    def is_won(self, position):
        """Return True if the system wins from a position."""
        return self.solution.winners[self.numbers[position]] == 0

    def chosen(self, position):
        """Return the position that the system chooses at a position at which it is to say a letter and wins."""
        return self.positions[self.solution.choices[self.numbers[position]]]

    def chosen_opening(self):
        """Return the letters that the system says before it hears anything."""
        position = self.first_position()
        while position[0] == SAY:
            position = self.chosen(position)
        return position[2]

    def answer(self, place, heard):
        """Return the letter that the system emits when it hears a letter at a place from which it wins."""
        position = self.after_hearing(place, heard)
        if position[0] == HEAR:
            return 0
        _, target, kept = self.chosen(position)
        if self.lead < 0:
            return kept[-1]
        answered = (place[1] + (heard,))[0]
        return self.parity.rows[place[0]][answered::self.inputs].index(target)

    def advance(self, place, heard, said):
        """Return the place after a letter was heard at a place and one was emitted for it."""
        state, kept = place
        after, turn = delayed(self.lead, kept, self.heard_as[heard], self.said_as[said])
        if turn is None:
            return state, after
        return self.parity.rows[state][turn[0] + self.inputs * turn[1]], after


def explored_positions(arena):
    """Return all positions of an arena, and their graph."""
    return explore([arena.first_position()], lambda position: arena.positions_after(position))
