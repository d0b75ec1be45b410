"""Making automata with marks smaller.

A state simulates another one if it can answer each move of the other one by a
move for the same kind of letters, without further marks, to a state that
simulates the one to which the other one has moved. Then there is a good run
from the first state on each word on which there is one from the other state.
"""

from reactivesynth.marked import Marked, trimmed
from reactivesynth.masks import numbers_of, within

# With more moves than this it would take too long to find out which states simulate which.
MOST_WORK = 4000000


def shrunk(marked):
    """Return a small automaton with good runs on the same words."""
    size = -1
    while size_of(marked) != size:
        size = size_of(marked)
        marked = merged(trimmed(marked))
    return marked


def size_of(marked):
    """Return the number of states and moves."""
    return len(marked.rows) + sum([len(moves) for row in marked.rows for moves in row])


def merged(marked):
    """Return the automaton with one state for all that simulate each other, and without needless moves."""
    count = len(marked.rows)
    if count * size_of(marked) > MOST_WORK:
        return marked
    found = simulators(marked.rows)
    chosen = []
    for state in range(count):
        alike = [other for other in numbers_of(found[state]) if (found[other] >> state) & 1 == 1]
        chosen.append(alike[0])
    kept = sorted(set(chosen))
    numbers = {state: at for at, state in enumerate(kept)}

    def needed(moves):
        return [(numbers[target], marks) for target, marks in needed_moves(moves, chosen, found)]

    rows = [[needed(moves) for moves in marked.rows[state]] for state in kept]
    starts = [start for start, _ in needed([(state, 0) for state in marked.starts])]
    return Marked(starts, rows, marked.count)


def needed_moves(moves, chosen, found):
    """Return moves to chosen states without those in the place of which another one can be made."""
    candidates = sorted(set([(chosen[target], marks) for target, marks in moves]))
    kept = []
    for move in candidates:
        if not any([other != move and replaces(other, move, found) for other in candidates]):
            kept.append(move)
    return kept


def replaces(other, move, found):
    """Return True if a move can be made in the place of another one."""
    return within(other[1], move[1]) and (found[move[0]] >> other[0]) & 1 == 1


def simulators(rows):
    """Return for each state the mask of the states that simulate it."""
    sources = move_sources(rows)
    found = [(1 << len(rows)) - 1] * len(rows)
    answers = {}
    size = -1
    while sum([len(numbers_of(mask)) for mask in found]) != size:
        size = sum([len(numbers_of(mask)) for mask in found])
        for state, row in enumerate(rows):
            mask = found[state]
            for kind, moves in enumerate(row):
                for target, marks in moves:
                    key = (kind, target, marks)
                    # What can answer a move depends on the simulators of its target alone.
                    before, answer = answers.get(key, (-1, 0))
                    if before != found[target]:
                        answer = answering(sources[kind], found[target], marks)
                        answers[key] = (found[target], answer)
                    mask = mask & answer
            found[state] = mask
    return found


def move_sources(rows):
    """Return for each kind of letters a dict with, for marks and a target, the mask of the states with such a move."""
    sources = [{} for _ in rows[0]] if len(rows) > 0 else []
    for state, row in enumerate(rows):
        for kind, moves in enumerate(row):
            for target, marks in moves:
                table = sources[kind].setdefault(marks, {})
                table[target] = table.get(target, 0) | (1 << state)
    return sources


def answering(tables, targets, marks):
    """Return the mask of the states with a move to one of the targets without further marks."""
    found = 0
    for other in tables:
        if within(other, marks):
            for target in tables[other]:
                if (targets >> target) & 1 == 1:
                    found = found | tables[other][target]
    return found
