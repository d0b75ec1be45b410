"""Monitors, which tell the verdict on every finite word."""

from reactivesynth.alike import numbered, without_alike
from reactivesynth.buchi import successors
from reactivesynth.errors import InvalidLetter
from reactivesynth.graphs import explore
from reactivesynth.operations import trim
from reactivesynth.specs import opposite, spec_automaton

OPEN = "open"
MET = "met"
BROKEN = "broken"


class Monitor:
    """The monitor of a specification, which reads one letter after the other."""

    def __init__(self, spec):
        verdicts, rows = verdict_table(spec)
        self.verdicts = tuple(verdicts)
        self.rows = tuple([tuple(row) for row in rows])
        self.state = 0

    @property
    def verdict(self):
        """The verdict of the current state."""
        return self.verdicts[self.state]

    def read(self, letter):
        """Go to the next state and return its verdict."""
        if letter < 0 or letter >= len(self.rows[0]):
            raise InvalidLetter("this is no letter over the signals of the specification")
        self.state = self.rows[self.state][letter]
        return self.verdicts[self.state]


def verdict_table(spec):
    """Return the verdicts of the states of the monitor, and the rows with their next states."""
    # Every state of a trimmed automaton can go on to an accepted word. So the prospects
    # of a word are good as long as some state is left, and bad likewise.
    good = trim(spec_automaton(spec))
    bad = trim(spec_automaton(opposite(spec)))
    kind_of, letters = letters_by_moves(good, bad)

    def step(node):
        verdict, goods, bads = node
        if verdict != OPEN:
            return [node] * len(letters)
        return [judged(successors(good, goods, letter), successors(bad, bads, letter)) for letter in letters]

    nodes, rows = explore([judged(good.initial, bad.initial)], step)
    verdicts = [node[0] for node in nodes]
    states, small_rows = without_alike(0, verdicts, rows)
    return [verdicts[state] for state in states], [[row[kind] for kind in kind_of] for row in small_rows]


def letters_by_moves(first, second):
    """Return for each letter the number of its kind, and for each kind a letter. Letters of a kind move alike."""
    columns = [tuple([row[letter] for row in first.rows + second.rows]) for letter in range(first.letters)]
    kind_of = numbered(columns)
    return kind_of, [kind_of.index(kind) for kind in range(max(kind_of) + 1)]


def judged(goods, bads):
    """Return the verdict together with the states that are left, which no longer matter once it is settled."""
    if len(goods) == 0:
        return BROKEN, (), ()
    if len(bads) == 0:
        return MET, (), ()
    return OPEN, tuple(goods), tuple(bads)
