"""Buchi automata."""

from reactivesynth.errors import InvalidAutomaton
from reactivesynth.graphs import explore, on_cycles
from reactivesynth.words import check_letters, shortest_lasso


class Automaton:
    """A Buchi automaton over the letters 0, 1, .. letters - 1."""

    def __init__(self, letters, initial, accepting, rows):
        if letters < 1:
            raise InvalidAutomaton("there is at least one letter")
        if len(rows) == 0:
            raise InvalidAutomaton("there is at least one state")
        check_states(initial, len(rows))
        check_states(accepting, len(rows))
        for row in rows:
            if len(row) != letters:
                raise InvalidAutomaton("a row has one entry for each letter")
            for states in row:
                check_states(states, len(rows))
        self.letters = letters
        self.initial = tuple(initial)
        self.accepting = tuple(accepting)
        self.rows = tuple([tuple([tuple(states) for states in row]) for row in rows])


def check_states(states, count):
    """Raise InvalidAutomaton unless states is an ascending list of numbers below count."""
    before = -1
    for state in states:
        if state <= before or state >= count:
            raise InvalidAutomaton("a list of states ascends and contains only states")
        before = state


def empty_automaton(letters):
    """Return an automaton that accepts no word."""
    return Automaton(letters, [], [], [[[]] * letters])


def built_automaton(letters, starts, moves, accepting):
    """Return the automaton of all that can be reached from starts.

    What will be its states may be anything that can be a key of a dict.
    moves(state, letter) lists the successors, accepting(state) tells whether
    a state is accepting.
    """
    if len(starts) == 0:
        return empty_automaton(letters)

    def step(state):
        return [target for letter in range(letters) for target in moves(state, letter)]

    found, _ = explore(starts, step)
    numbers = {state: at for at, state in enumerate(found)}
    rows = []
    for state in found:
        rows.append([sorted(set([numbers[target] for target in moves(state, letter)])) for letter in range(letters)])
    chosen = [numbers[state] for state in found if accepting(state)]
    return Automaton(letters, [numbers[state] for state in starts], chosen, rows)


def state_graph(automaton):
    """Return the graph of the states, whatever the letters are."""
    graph = []
    for row in automaton.rows:
        graph.append(sorted(set([state for states in row for state in states])))
    return graph


def state_flags(states, count):
    """Return for each number below count whether it is in the list states."""
    flags = [False] * count
    for state in states:
        flags[state] = True
    return flags


def accepts(automaton, lasso):
    """Return True if the automaton accepts the word of the lasso."""
    check_letters(lasso, automaton.letters)
    head, loop = shortest_lasso(lasso[0], lasso[1])
    states = automaton.initial
    for letter in head:
        states = successors(automaton, states, letter)

    def step(node):
        state, at = node
        after = (at + 1) % len(loop)
        return [(target, after) for target in automaton.rows[state][loop[at]]]

    nodes, graph = explore([(state, 0) for state in states], step)
    accepting = state_flags(automaton.accepting, len(automaton.rows))
    return any([accepting[node[0]] and cyclic for node, cyclic in zip(nodes, on_cycles(graph))])


def successors(automaton, states, letter):
    """Return the list of all successors of some states for a letter."""
    return sorted(set([target for state in states for target in automaton.rows[state][letter]]))


def find_word(automaton):
    """Return a short lasso whose word the automaton accepts, or None if it accepts no word."""
    accepting = state_flags(automaton.accepting, len(automaton.rows))
    cyclic = on_cycles(state_graph(automaton))
    edges = search(automaton, automaton.initial)
    for state in edges:
        if accepting[state] and cyclic[state]:
            return shortest_lasso(path(edges, state), cycle(automaton, state))
    return None


def search(automaton, starts):
    """Search from starts, nearer states first.

    Returns a dict with the states in the order in which they are reached,
    each with the state before it and the letter between them; a start has -1
    in both places.
    """
    edges = {state: (-1, -1) for state in starts}
    waiting = list(starts)
    at = 0
    while at < len(waiting):
        state = waiting[at]
        at += 1
        for letter, targets in enumerate(automaton.rows[state]):
            for target in targets:
                if target not in edges:
                    edges[target] = (state, letter)
                    waiting.append(target)
    return edges


def path(edges, state):
    """Return the letters on the way to a state that a search has found."""
    letters = []
    before, letter = edges[state]
    while before >= 0:
        letters.append(letter)
        before, letter = edges[before]
    return letters[::-1]


def cycle(automaton, state):
    """Return the letters of a shortest cycle through a state that lies on one."""
    edges = search(automaton, [state])
    closing = [(before, letter) for before in edges
               for letter, targets in enumerate(automaton.rows[before]) if state in targets]
    # The search lists nearer states first, so the first closing edge makes the shortest cycle.
    before, letter = closing[0]
    return path(edges, before) + [letter]
