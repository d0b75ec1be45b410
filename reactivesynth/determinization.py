"""Turning a Buchi automaton into a parity automaton."""

from reactivesynth.buchi import state_flags, state_graph
from reactivesynth.graphs import components, explore, on_cycles
from reactivesynth.lowering import lowered
from reactivesynth.masks import mask_of, numbers_of
from reactivesynth.operations import trim
from reactivesynth.parity import ParityAutomaton, quotient
from reactivesynth.trees import next_tree


def determinize(automaton):
    """Return a parity automaton that accepts the same words as the Buchi automaton."""
    moves = tree_moves(trim(automaton))
    return quotient(with_state_priorities(automaton.letters, moves))


def tree_moves(automaton):
    """Return the moves between all trees that can be reached.

    That is a list with a row for each tree, the start first, which has a pair
    for each letter: the number of the next tree and the priority of the move.
    """
    accepting = mask_of(loose_accepting(automaton))
    columns = [[mask_of(row[letter]) for row in automaton.rows] for letter in range(automaton.letters)]
    start = ((-1, mask_of(automaton.initial)),) if len(automaton.initial) > 0 else ()
    numbers = {start: 0}
    trees = [start]
    rows = []
    while len(rows) < len(trees):
        row = []
        for tree, priority in moves_of(trees[len(rows)], columns, accepting):
            if tree not in numbers:
                numbers[tree] = len(trees)
                trees.append(tree)
            row.append((numbers[tree], priority))
        rows.append(row)
    return rows


def moves_of(tree, columns, accepting):
    """Return the next tree and the priority of the move for each letter."""
    states = numbers_of(tree[0][1]) if len(tree) > 0 else []
    moves = []
    known = {}
    for images in columns:
        # Many letters lead from the states of one tree to the same states.
        key = tuple([images[state] for state in states])
        if key not in known:
            after, (node, flashed) = next_tree(tree, images, accepting)
            known[key] = (after, move_priority(node, flashed, len(images)))
        moves.append(known[key])
    return moves


def move_priority(node, flashed, size):
    """Return the priority of a move in which this node flashed or vanished; older nodes prevail."""
    if node < 0:
        return 1
    return 2 * (size - node) + (0 if flashed else 1)


def loose_accepting(automaton):
    """Return accepting states with which the automaton accepts the same words.

    A state on a cycle counts if it is accepting, or if every cycle of its
    component goes through an accepting state. The more states count, the
    smaller the trees are.
    """
    graph = state_graph(automaton)
    homes = components(graph)
    cyclic = on_cycles(graph)
    accepting = state_flags(automaton.accepting, len(graph))
    others = [[] if flag else row for flag, row in zip(accepting, graph)]
    mixed = {homes[state]: True for state, found in enumerate(on_cycles(others)) if found}
    return [state for state in range(len(graph)) if cyclic[state] and (accepting[state] or homes[state] not in mixed)]


def with_state_priorities(letters, moves):
    """Return the parity automaton whose states are pairs of a tree and of the priority of the move to it."""
    edges = {}
    for tree, row in enumerate(moves):
        for target, priority in row:
            edges[(tree, target, priority)] = True
    priorities = lowered(list(edges))
    incoming = {}
    for edge in priorities:
        incoming[edge[1]] = max(priorities[edge], incoming.get(edge[1], 0))

    def step(node):
        # A move on no cycle may have any priority; a usual one saves states.
        place = node[0]
        return [(after, priorities.get((place, after, given), incoming.get(after, 0)))
                for after, given in moves[place]]

    nodes, rows = explore([(0, incoming.get(0, 0))], step)
    return ParityAutomaton(letters, 0, [priority for _, priority in nodes], rows)
