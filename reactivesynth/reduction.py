"""Small Buchi automata: from automata with marks, and from other Buchi automata."""

from reactivesynth.buchi import Automaton, empty_automaton, state_flags
from reactivesynth.graphs import components
from reactivesynth.marked import Marked, move_graph
from reactivesynth.simulation import shrunk


def reduced(automaton):
    """Return a Buchi automaton for the same words that has at most as many states, often fewer."""
    numbers = {}
    kind_of = []
    for letter in range(automaton.letters):
        column = tuple([row[letter] for row in automaton.rows])
        numbers.setdefault(column, len(numbers))
        kind_of.append(numbers[column])
    accepting = state_flags(automaton.accepting, len(automaton.rows))
    rows = [[] for _ in automaton.rows]
    for column in numbers:
        for state, targets in enumerate(column):
            mark = 0 if accepting[state] else 1
            rows[state].append([(target, mark) for target in targets])
    return plain_automaton(shrunk(Marked(automaton.initial, rows, 1)), kind_of)


def small_automaton(marked, kind_of):
    """Return a small Buchi automaton for the words with good runs, where letters are of these kinds."""
    return plain_automaton(shrunk(leveled(shrunk(marked))), kind_of)


def plain_automaton(marked, kind_of):
    """Return the Buchi automaton for an automaton whose only mark is on all moves from a state or on none."""
    if len(marked.starts) == 0:
        return empty_automaton(len(kind_of))
    accepting = []
    for state, row in enumerate(marked.rows):
        if max([marks for moves in row for _, marks in moves]) == 0:
            accepting.append(state)
    kinds = [[sorted(set([target for target, _ in moves])) for moves in row] for row in marked.rows]
    rows = [[row[kind] for kind in kind_of] for row in kinds]
    return Automaton(len(kind_of), sorted(set(marked.starts)), accepting, rows)


def leveled(marked):
    """Return an automaton with one mark, which all moves from a state have or none, with the same good runs.

    Its states are pairs of a state and a level. A run waits for a move
    without the mark 0, then for one without the mark 1, and so on. In a state
    with the level count it has made moves without each mark, and begins again.
    """
    homes = components(move_graph(marked.rows))
    nodes = [(state, 0) for state in marked.starts]
    numbers = {node: at for at, node in enumerate(nodes)}
    rows = []
    while len(rows) < len(nodes):
        state, level = nodes[len(rows)]
        mark = 0 if level == marked.count else 1
        row = []
        for moves in marked.rows[state]:
            after = []
            for target, marks in moves:
                same = homes[target] == homes[state]
                node = (target, next_level(level, marks, marked.count) if same else 0)
                if node not in numbers:
                    numbers[node] = len(nodes)
                    nodes.append(node)
                after.append((numbers[node], mark))
            row.append(after)
        rows.append(row)
    return Marked(list(range(len(marked.starts))), rows, 1)


def next_level(level, marks, count):
    """Return the level after a move with these marks."""
    after = 0 if level == count else level
    while after < count and (marks >> after) & 1 == 0:
        after += 1
    return after
