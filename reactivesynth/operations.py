"""Operations on Buchi automata."""

from reactivesynth.buchi import Automaton, built_automaton, empty_automaton, state_flags, state_graph
from reactivesynth.errors import Mismatch
from reactivesynth.graphs import on_cycles, reachable, reversed_graph


def check_same_letters(first, second):
    """Raise Mismatch if two automata do not have the same number of letters."""
    if first.letters != second.letters:
        raise Mismatch("the automata do not have the same letters")


def union(first, second):
    """Return an automaton for the words that at least one of two automata accepts."""
    check_same_letters(first, second)
    size = len(first.rows)
    rows = list(first.rows) + [[shifted(states, size) for states in row] for row in second.rows]
    initial = list(first.initial) + shifted(second.initial, size)
    accepting = list(first.accepting) + shifted(second.accepting, size)
    return Automaton(first.letters, initial, accepting, rows)


def shifted(states, size):
    """Return the states with size added to each of them."""
    return [state + size for state in states]


def intersection(first, second):
    """Return an automaton for the words that two automata both accept."""
    check_same_letters(first, second)
    flags = (state_flags(first.accepting, len(first.rows)), state_flags(second.accepting, len(second.rows)))

    def moves(state, letter):
        # A state waits for an accepting state of the first automaton (side 0)
        # or, after that, of the second one (side 1), in turns.
        one, two, side = state
        after = 1 - side if flags[side][(one, two)[side]] else side
        return [(left, right, after) for left in first.rows[one][letter] for right in second.rows[two][letter]]

    def accepting(state):
        return state[2] == 0 and flags[0][state[0]]

    starts = [(one, two, 0) for one in first.initial for two in second.initial]
    return built_automaton(first.letters, starts, moves, accepting)


def hide(automaton, letters):
    """Return an automaton for the words of which some accepted word has the letters modulo letters."""
    if letters < 1 or automaton.letters % letters != 0:
        raise Mismatch("the letters of the automaton are no multiple")
    rows = []
    for row in automaton.rows:
        rows.append([sorted(set([state for states in row[letter::letters] for state in states]))
                     for letter in range(letters)])
    return Automaton(letters, automaton.initial, automaton.accepting, rows)


def widen(automaton, letters):
    """Return an automaton for the words whose letters, modulo those of the automaton, make an accepted word."""
    if letters < 1 or letters % automaton.letters != 0:
        raise Mismatch("the number of letters is no multiple of the letters of the automaton")
    rows = [list(row) * (letters // automaton.letters) for row in automaton.rows]
    return Automaton(letters, automaton.initial, automaton.accepting, rows)


def trim(automaton):
    """Return the automaton with the useful states alone."""
    kept = useful_states(automaton)
    if len(kept) == 0:
        return empty_automaton(automaton.letters)
    numbers = {state: at for at, state in enumerate(kept)}
    rows = [[renumbered(states, numbers) for states in automaton.rows[state]] for state in kept]
    initial = renumbered(automaton.initial, numbers)
    return Automaton(automaton.letters, initial, renumbered(automaton.accepting, numbers), rows)


def renumbered(states, numbers):
    """Return the new numbers of those states that have one."""
    return [numbers[state] for state in states if state in numbers]


def useful_states(automaton):
    """Return the states that occur in a run that is in accepting states without end."""
    graph = state_graph(automaton)
    cyclic = on_cycles(graph)
    reached = reachable(graph, automaton.initial)
    leading = reachable(reversed_graph(graph), [state for state in automaton.accepting if cyclic[state]])
    return [state for state in range(len(graph)) if reached[state] and leading[state]]
