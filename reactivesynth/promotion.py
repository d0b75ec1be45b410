"""Finding a part of a parity game that one player wins.

This is priority promotion, after Benerecetti, Dell'Erba and Mogavero.
"""

from reactivesynth.graphs import reversed_graph


class Regions:
    """A parity game in which each position has a level, which is its own at first.

    The positions of a level are a region. Levels are numbered like
    priorities: the greater one prevails, and the even ones are good for
    player 0. The player for whom the level of a region is good, its player,
    wins each play that stays in the region if this player moves as the
    choices say. So a region that the other player cannot leave is won.
    """

    def __init__(self, game):
        self.game = game
        self.sources = reversed_graph(game.moves)
        self.own_levels = ranked(game.priorities)
        self.levels = list(self.own_levels)
        self.choices = [-1] * len(self.levels)
        self.natives = [[] for _ in range(max(self.levels) + 1)]
        for position, level in enumerate(self.levels):
            self.natives[level].append(position)
        self.joined = [[] for _ in self.natives]

    def members(self, level):
        """Return the positions of a region."""
        return [position for position in self.natives[level] + self.joined[level] if self.levels[position] == level]

    def grow(self, level):
        """Add to a region all lower positions from which its player can force a member.

        The play must not come to higher positions on the way.
        """
        player = level % 2
        left = {}
        waiting = self.members(level)
        while len(waiting) > 0:
            target = waiting.pop()
            for source in self.sources[target]:
                if self.levels[source] >= level:
                    continue
                if self.game.owners[source] == player:
                    self.choices[source] = target
                else:
                    if source not in left:
                        left[source] = self.lower_moves(source, level)
                    left[source] -= 1
                    if left[source] > 0:
                        continue
                self.levels[source] = level
                self.joined[level].append(source)
                waiting.append(source)

    def lower_moves(self, position, level):
        """Return the number of moves from a position that do not lead to a higher level."""
        return len([target for target in self.game.moves[position] if self.levels[target] <= level])

    def is_open(self, level):
        """Return True if the play may leave a region downwards, whatever its player does."""
        for position in self.members(level):
            around = [self.levels[target] for target in self.game.moves[position]]
            if self.game.owners[position] == level % 2:
                if level not in around:
                    return True
            elif min(around) < level:
                return True
        return False

    def choose(self, level):
        """Give the player of a region that is not open a choice wherever there is none."""
        for position in self.members(level):
            if self.game.owners[position] == level % 2 and self.choices[position] < 0:
                inner = [target for target in self.game.moves[position] if self.levels[target] == level]
                self.choices[position] = inner[0]

    def exits(self, level):
        """Return the higher levels to which the other player may leave a region."""
        found = []
        for position in self.members(level):
            if self.game.owners[position] != level % 2:
                found.extend([self.levels[target] for target in self.game.moves[position]
                              if self.levels[target] > level])
        return found

    def settle(self, level):
        """Complete a region, and return the level to look at next; it is the same if the region is won."""
        self.grow(level)
        if len(self.members(level)) == 0 or self.is_open(level):
            return level - 1
        self.choose(level)
        return min(self.exits(level), default=level)

    def promote(self, level, goal):
        """Add a region to a higher one. The positions between get their own levels again."""
        promoted = self.members(level)
        for between in range(level + 1, goal):
            for position in self.members(between):
                self.levels[position] = self.own_levels[position]
                self.choices[position] = -1
            self.joined[between] = []
        for position in promoted:
            self.levels[position] = goal
        self.joined[level] = []
        self.joined[goal].extend(promoted)


def ranked(priorities):
    """Return the priorities in the same order, but as low as can be without a change of the winners."""
    ranks = {}
    rank = 0
    for priority in sorted(set(priorities)):
        if priority % 2 != rank % 2:
            rank += 1
        ranks[priority] = rank
    return [ranks[priority] for priority in priorities]


def won_part(game):
    """Return positions that a player wins without leaving them, the choices, and the player.

    The choices count at those of the positions that the player owns.
    """
    regions = Regions(game)
    level = len(regions.natives) - 1
    goal = regions.settle(level)
    while goal != level:
        if goal > level:
            regions.promote(level, goal)
        level = goal
        goal = regions.settle(level)
    return regions.members(level), regions.choices, level % 2
