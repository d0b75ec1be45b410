"""Solving parity games."""

from reactivesynth.games import Game
from reactivesynth.graphs import component_lists, part_of, reversed_graph
from reactivesynth.promotion import won_part


class Solution:
    """The winner of each position of a game, and choices with which the winners win."""

    def __init__(self, winners, choices):
        self.winners = tuple(winners)
        self.choices = tuple(choices)


class Findings:
    """What is known so far of the winners of a game; -1 stands for what is not known."""

    def __init__(self, game):
        self.game = game
        self.sources = reversed_graph(game.moves)
        self.left = [len(moves) for moves in game.moves]
        self.winners = [-1] * len(game.moves)
        self.choices = [-1] * len(game.moves)

    def record(self, player, positions):
        """Record the winner of some positions, and of all from which this player can force one of them."""
        for position in positions:
            self.winners[position] = player
        waiting = list(positions)
        while len(waiting) > 0:
            target = waiting.pop()
            for source in self.sources[target]:
                self.left[source] -= 1
                if self.winners[source] >= 0:
                    continue
                if self.game.owners[source] == player:
                    self.choices[source] = target
                elif self.left[source] > 0:
                    continue
                self.winners[source] = player
                waiting.append(source)


def solve(game):
    """Return the winner of each position of a game, with choices for both players."""
    findings = Findings(game)
    # What lies farther on is solved first, so that no move leads out of what is looked at.
    waiting = [list(range(len(game.moves)))]
    while len(waiting) > 0:
        places = [place for place in waiting.pop() if findings.winners[place] < 0]
        groups = component_lists(game.moves, places)
        if len(groups) > 1:
            waiting.extend(groups)
        elif len(groups) == 1:
            solve_part(game, groups[0], findings)
            waiting.append(groups[0])
    return Solution(findings.winners, findings.choices)


def solve_part(game, places, findings):
    """Find winners of some places, all moves from which lead to them or to places with a winner."""
    owners = [game.owners[place] for place in places]
    priorities = [game.priorities[place] for place in places]
    members, choices, player = won_part(Game(owners, priorities, part_of(game.moves, places)))
    for member in members:
        if owners[member] == player:
            findings.choices[places[member]] = places[choices[member]]
    findings.record(player, [places[member] for member in members])
