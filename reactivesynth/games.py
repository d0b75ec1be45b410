"""Parity games."""

from reactivesynth.errors import InvalidGame, InvalidPosition
from reactivesynth.graphs import component_lists, reachable, reversed_graph


class Game:
    """A parity game."""

    def __init__(self, owners, priorities, moves):
        if len(moves) == 0:
            raise InvalidGame("there is at least one position")
        if len(owners) != len(moves) or len(priorities) != len(moves):
            raise InvalidGame("there is one owner and one priority for each position")
        if min(owners) < 0 or max(owners) > 1:
            raise InvalidGame("an owner is 0 or 1")
        if min(priorities) < 0:
            raise InvalidGame("a priority is not negative")
        for targets in moves:
            check_moves(targets, len(moves))
        self.owners = tuple(owners)
        self.priorities = tuple(priorities)
        self.moves = tuple([tuple(targets) for targets in moves])


def check_moves(targets, count):
    """Raise InvalidGame unless targets is a list of moves in a game with count positions."""
    if len(targets) == 0:
        raise InvalidGame("a position has at least one move")
    before = -1
    for target in targets:
        if target <= before or target >= count:
            raise InvalidGame("a list of moves ascends and contains only positions")
        before = target


def check_position(game, position):
    """Raise InvalidPosition if a number is no position of the game."""
    if position < 0 or position >= len(game.moves):
        raise InvalidPosition("a position is a number from 0 to the number of positions minus 1")


def distances(game, player, targets):
    """Return for each position the number of moves within which the player can force a target, or -1."""
    for target in targets:
        check_position(game, target)
    found = [-1] * len(game.moves)
    for target in targets:
        found[target] = 0
    sources = reversed_graph(game.moves)
    # The number of moves of a position that do not lead to a position with a distance yet.
    left = [len(moves) for moves in game.moves]
    waiting = sorted(set(targets))
    at = 0
    while at < len(waiting):
        position = waiting[at]
        at += 1
        for source in sources[position]:
            left[source] -= 1
            # Nearer positions come first: the first one is the nearest move, the last one the farthest.
            if found[source] < 0 and (game.owners[source] == player or left[source] == 0):
                found[source] = found[position] + 1
                waiting.append(source)
    return found


def choices_win(game, player, choices, position):
    """Return True if these choices for the player win from a position."""
    check_position(game, position)
    graph = []
    for place, moves in enumerate(game.moves):
        if game.owners[place] != player:
            graph.append(list(moves))
        else:
            graph.append([choices[place]] if choices[place] >= 0 else [])
    flags = reachable(graph, [position])
    reached = [place for place, found in enumerate(flags) if found]
    if min([len(graph[place]) for place in reached]) == 0:
        return False
    return winning_group(graph, reached, game.priorities, 1 - player) is None


def winning_group(graph, places, priorities, player):
    """Return places through all of which a player can go round and wins so, or None if there are none."""
    waiting = [places]
    while len(waiting) > 0:
        groups = component_lists(graph, waiting.pop())
        for group in groups:
            if len(group) > 1 or group[0] in graph[group[0]]:
                highest = max([priorities[place] for place in group])
                if highest % 2 == player:
                    return group
                # No cycle through the highest priority is one for the player.
                waiting.append([place for place in group if priorities[place] < highest])
    return None
