"""Automata with marks on their moves.

Row k of such an automaton has for each kind of letters the list of the moves
from state k, which are pairs of a state and a mask of marks. A run is good if
for each mark it makes moves without this mark again and again without end. So
a mark says that something is put off once more.
"""

from reactivesynth.graphs import components, reachable, reversed_graph
from reactivesynth.masks import mask_of, numbers_of


class Marked:
    """An automaton with the marks 0, 1, .. count - 1 on its moves."""

    def __init__(self, starts, rows, count):
        self.starts = starts
        self.rows = rows
        self.count = count


def built_marked(progress):
    """Return the automaton whose states are those of a formula that is read turn by turn."""
    states = [progress.start()]
    numbers = {states[0]: 0}
    rows = []
    while len(rows) < len(states):
        row = progress.moves(states[len(rows)])
        for moves in row:
            for target, _ in moves:
                if target not in numbers:
                    numbers[target] = len(states)
                    states.append(target)
        rows.append([[(numbers[target], marks) for target, marks in moves] for moves in row])
    return with_marks_renumbered(rows)


def with_marks_renumbered(rows):
    """Return the automaton with these rows and the start 0, whose marks are numbered from 0."""
    used = 0
    for row in rows:
        for moves in row:
            for _, marks in moves:
                used = used | marks
    places = {mark: at for at, mark in enumerate(numbers_of(used))}
    rows = [[[(target, mask_of([places[mark] for mark in numbers_of(marks)])) for target, marks in moves]
             for moves in row] for row in rows]
    return Marked([0], rows, len(places))


def move_graph(rows):
    """Return the graph of the states, whatever the letters and marks are."""
    graph = []
    for row in rows:
        graph.append(sorted(set([target for moves in row for target, _ in moves])))
    return graph


def common_marks(rows, homes):
    """Return for each component with moves in it the marks that all these moves have."""
    found = {}
    for state, row in enumerate(rows):
        home = homes[state]
        for moves in row:
            for target, marks in moves:
                if homes[target] == home:
                    found[home] = found.get(home, marks) & marks
    return found


def trimmed(marked):
    """Return the automaton with the states that occur in good runs alone."""
    graph = move_graph(marked.rows)
    homes = components(graph)
    common = common_marks(marked.rows, homes)
    good = {home: True for home in common if common[home] == 0}
    reached = reachable(graph, marked.starts)
    leading = reachable(reversed_graph(graph), [state for state, home in enumerate(homes) if home in good])
    kept = [state for state in range(len(graph)) if reached[state] and leading[state]]
    numbers = {state: at for at, state in enumerate(kept)}
    rows = []
    for state in kept:
        inner = inner_marks(marked.rows[state], homes[state], homes)
        row = []
        for moves in marked.rows[state]:
            row.append([(numbers[target], marks if homes[target] == homes[state] else inner)
                        for target, marks in moves if target in numbers])
        rows.append(row if homes[state] in good else with_all_marks(row, marked.count))
    return Marked([numbers[state] for state in marked.starts if state in numbers], rows, marked.count)


# Marks matter only on moves within a component in which a good run can stay.
# The others get marks that make states more alike; but if all moves from a
# state have the same marks, they keep having the same.


def inner_marks(row, home, homes):
    """Return all marks that occur on moves to states of a component."""
    found = 0
    for moves in row:
        for target, marks in moves:
            if homes[target] == home:
                found = found | marks
    return found


def with_all_marks(row, count):
    """Return a row with all marks on all moves."""
    full = (1 << count) - 1
    return [[(target, full) for target, _ in moves] for moves in row]
