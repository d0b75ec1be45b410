"""What a machine does in a game when only some of its entries are known."""

from reactivesynth.arena import HEAR
from reactivesynth.games import winning_group
from reactivesynth.graphs import explore


class Places:
    """The places of an arena that come after the openings with which the system can still win, numbered.

    letters has one letter for each kind of letters that can be said. The row
    of a place has, for each letter that is heard and each of these, the next
    place. A place that no system wins has an empty row.
    """

    def __init__(self, arena):
        self.letters = sorted(set(arena.said_as))
        self.inputs = arena.inputs
        self.openings = won_openings(arena, self.letters)
        found, self.rows = explored_places(arena, self.openings, self.letters)
        self.won = [is_won(arena, place) for place in found]
        self.priorities = [arena.parity.priorities[state] for state, _ in found]


def is_won(arena, place):
    """Return True if the system wins from a place."""
    return arena.is_won((HEAR, place[0], place[1]))


def explored_places(arena, openings, letters):
    """Return the places that come after openings when such letters are said, and their graph."""
    def step(place):
        if not is_won(arena, place):
            return []
        return [arena.advance(place, heard, said) for heard in range(arena.inputs) for said in letters]

    return explore([(arena.parity.start, opening) for opening in openings], step)


def won_openings(arena, letters):
    """Return the openings that consist of these letters and after which the system can still win."""
    found = [()]
    for _ in range(-arena.lead):
        found = [opening + (letter,) for opening in found for letter in letters]
    return [opening for opening in found if is_won(arena, (arena.parity.start, opening))]


class Trial:
    """The plays of a machine from a place on, as far as the entries of the machine are known.

    An entry is a pair of a state and a letter heard there. It has the next
    state and the index of the letter emitted. A node is a state of the
    machine and a place of the game. rows[k] has for each known move from node
    k the number of the next node and the entry; ways[k] is the move by which
    node k was reached first, as the number of the node before and the entry.
    missing is an entry that is needed and not known, and lost is the first
    node that no system wins, or -1.
    """

    def __init__(self, places, start, entries):
        self.places = places
        self.nodes = [(0, start)]
        self.ways = [(-1, (-1, -1))]
        self.rows = []
        self.missing = None
        self.missing_again = False
        self.lost = -1
        numbers = {self.nodes[0]: 0}
        while len(self.rows) < len(self.nodes) and self.lost < 0:
            self.rows.append(self.known_moves(len(self.rows), entries, numbers))

    def known_moves(self, at, entries, numbers):
        """Return the known moves from a node, and number the nodes that are reached so."""
        state, place = self.nodes[at]
        targets = self.places.rows[place]
        row = []
        for heard in range(self.places.inputs):
            entry = (state, heard)
            if entry in entries:
                after, said = entries[entry]
                node = (after, targets[heard * len(self.places.letters) + said])
                if node not in numbers:
                    numbers[node] = len(self.nodes)
                    self.add_node(node, (at, entry))
                row.append((numbers[node], entry))
            else:
                self.miss(entry, self.ways[at][1])
        return row

    def add_node(self, node, way):
        """Add a node that is reached by a move."""
        if self.lost < 0 and not self.places.won[node[1]]:
            self.lost = len(self.nodes)
        self.nodes.append(node)
        self.ways.append(way)

    def miss(self, entry, before):
        """Note an entry that is not known, where before is the entry that led to it."""
        # Plays in which one letter is heard again and again come round soonest, and so are soonest lost.
        again = entry[1] == before[1]
        if self.missing is None or (again and not self.missing_again):
            self.missing = entry
            self.missing_again = again

    def blamed(self):
        """Return entries with which every machine loses, or None if no play is lost as far as it is known."""
        if self.lost >= 0:
            return self.way_to(self.lost)
        graph = [[target for target, _ in row] for row in self.rows]
        priorities = [self.places.priorities[place] for _, place in self.nodes]
        group = winning_group(graph, list(range(len(graph))), priorities, 1)
        if group is None:
            return None
        highest = max([priorities[node] for node in group])
        turning = [node for node in group if priorities[node] == highest][0]
        return self.way_to(turning) + self.way_round(turning, group)

    def way_to(self, node):
        """Return the entries on the way to a node."""
        found = []
        while node > 0:
            node, entry = self.ways[node]
            found.append(entry)
        return found

    def way_round(self, turning, group):
        """Return the entries on a shortest way from a node through a group back to it."""
        inner = {node: True for node in group}
        ways = {turning: []}
        waiting = [turning]
        at = 0
        while True:
            node = waiting[at]
            at += 1
            for target, entry in self.rows[node]:
                if target == turning:
                    return ways[node] + [entry]
                if target in inner and target not in ways:
                    ways[target] = ways[node] + [entry]
                    waiting.append(target)
