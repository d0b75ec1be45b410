"""Finding values for hidden signals with which a formula is true."""

from reactivesynth.formulas import FUTURE, PAST
from reactivesynth.graphs import components, explore
from reactivesynth.masks import bit_column, bits_at
from reactivesynth.parts import STEPS, TRUE_BEYOND, number_parts, truth_of
from reactivesynth.words import letter_at


class Tableau:
    """How the truth of the parts of a formula may go on from turn to turn if some signals are free.

    A state stands between two turns. It has a bit for each temporal operator,
    with what is carried over (parts.truth_of tells what that is): by an
    operator of the past from the turn before to the turn after, by an
    operator of the future the other way round, so that it is a promise.
    """

    def __init__(self, formula, visible, hidden):
        self.parts = number_parts(formula, list(visible) + list(hidden))
        self.visible = len(visible)
        self.hidden = len(hidden)
        self.carriers = [at for at, part in enumerate(self.parts) if part[0] in FUTURE + PAST]
        self.bits = self.hidden + len(self.carriers)
        self.full = (1 << (1 << self.bits)) - 1

    def starts(self):
        """Return the states before turn 0."""
        fixed = 0
        asked = 0
        for bit, at in enumerate(self.carriers):
            kind = self.parts[at][0]
            if kind in PAST:
                fixed = fixed | (1 << bit)
                if kind in TRUE_BEYOND:
                    asked = asked | (1 << bit)
        return [state for state in range(1 << len(self.carriers)) if state & fixed == asked]

    def signal_column(self, signal, letter):
        """Return the truth of a signal in all cases."""
        if signal >= self.visible:
            return bit_column(signal - self.visible, self.bits)
        return self.full if (letter >> signal) & 1 == 1 else 0

    def columns(self, letter):
        """Return for each part its truth at a turn with this letter, in all cases.

        The bits of a case are the values of the hidden signals and then what
        each temporal operator needs to have carried to it.
        """
        needed = {at: bit_column(self.hidden + bit, self.bits) for bit, at in enumerate(self.carriers)}
        found = []
        for at, (kind, first, second) in enumerate(self.parts):
            if kind == "signal":
                found.append(self.signal_column(first, letter))
            else:
                left = found[first] if first >= 0 else 0
                right = found[second] if second >= 0 else 0
                found.append(truth_of(kind, left, right, needed.get(at, 0), self.full))
        return found

    def fair_columns(self, columns):
        """Return the conditions that an endless run must meet again and again, in all cases.

        Without them an operator could put off for ever what it promises. The
        first condition is always met.
        """
        found = [self.full]
        for at in self.carriers:
            kind, first, second = self.parts[at]
            decisive = columns[first if kind in ("eventually", "always", "weak_until") else second]
            if kind in ("eventually", "until"):
                found.append((self.full ^ columns[at]) | decisive)
            if kind in ("always", "weak_until", "release"):
                found.append(columns[at] | (self.full ^ decisive))
        return found

    def conditions(self):
        """Return the conditions that an endless run must meet again and again, as bits."""
        return (1 << len(self.fair_columns([0] * len(self.parts)))) - 1

    def steps(self, letter):
        """Return the different steps through a turn with this letter.

        A step is a tuple of the states before and after the turn, the
        conditions that it meets, as bits, and the truth of the formula.
        """
        columns = self.columns(letter)
        befores = []
        afters = []
        for bit, at in enumerate(self.carriers):
            kind, first, _ = self.parts[at]
            needed = bit_column(self.hidden + bit, self.bits)
            given = columns[first if kind in STEPS else at]
            befores.append(needed if kind in PAST else given)
            afters.append(given if kind in PAST else needed)
        fair = self.fair_columns(columns)
        found = {}
        for case in range(1 << self.bits):
            step = (bits_at(befores, case), bits_at(afters, case), bits_at(fair, case), (columns[-1] >> case) & 1)
            found[step] = True
        return list(found)


def satisfiable(formula, visible, hidden, lasso, turn):
    """Return True if the hidden signals can be given values with which the formula is true at a turn.

    The lasso gives the values of the visible signals.
    """
    tableau = Tableau(formula, visible, hidden)
    head, loop = lasso
    steps = {letter: tableau.steps(letter) for letter in sorted(set(head + loop))}
    states = {state: True for state in tableau.starts()}
    turns = max(len(head), turn + 1)
    for now in range(turns):
        states = {after: True for before, after, _, truth in steps[letter_at(lasso, now)]
                  if before in states and (now != turn or truth == 1)}
    begin = (turns - len(head)) % len(loop)
    moves = {letter: grouped(steps[letter]) for letter in steps}
    starts = [(state, begin) for state in states]
    return has_fair_run([moves[letter] for letter in loop], starts, tableau.conditions())


def grouped(steps):
    """Return a dict with the list of the steps from each state."""
    table = {}
    for step in steps:
        table.setdefault(step[0], []).append(step)
    return table


def has_fair_run(moves, starts, conditions):
    """Return True if some run through the moves, which stand in a circle, meets all conditions again and again.

    A start is a state and a place in the circle.
    """
    def steps_from(node):
        return moves[node[1]].get(node[0], [])

    def after(node):
        return [(way[1], (node[1] + 1) % len(moves)) for way in steps_from(node)]

    nodes, graph = explore(starts, after)
    homes = components(graph)
    met = {}
    for at, node in enumerate(nodes):
        for target, step in zip(graph[at], steps_from(node)):
            if homes[target] == homes[at]:
                met[homes[at]] = met.get(homes[at], 0) | step[2]
    return conditions in list(met.values())
