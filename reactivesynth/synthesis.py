"""Finding a system that meets a specification, or a machine that meets its dual."""

from reactivesynth.arena import Arena
from reactivesynth.determinization import determinize
from reactivesynth.graphs import explore
from reactivesynth.machines import Machine
from reactivesynth.minimization import minimize
from reactivesynth.parity import ParityAutomaton, complement_parity
from reactivesynth.specs import opposite, spec_automaton


class Verdict:
    """Whether a specification is realizable, and the machine that shows it."""

    def __init__(self, realizable, machine):
        self.realizable = realizable
        self.machine = machine


def synthesize(spec):
    """Return the verdict on a specification."""
    parity = spec_parity(spec)
    inputs = 1 << len(spec.inputs)
    arena = Arena(parity, inputs, spec.lead)
    if arena.is_won(arena.first_position()):
        return Verdict(True, controller(arena))
    # The surroundings are a system for the dual, with which they win the same game.
    outputs = 1 << len(spec.outputs)
    return Verdict(False, controller(Arena(dual_parity(parity, inputs), outputs, -1 - spec.lead)))


def spec_parity(spec):
    """Return a parity automaton for the words that satisfy the specification."""
    direct = spec_automaton(spec)
    other = spec_automaton(opposite(spec))
    # The smaller automaton most often gives the smaller parity automaton, and both are as good.
    if len(direct.rows) <= len(other.rows):
        return determinize(direct)
    return complement_parity(determinize(other))


def dual_parity(parity, inputs):
    """Return a parity automaton for the words that satisfy the dual, where both sides of a letter are exchanged."""
    rows = [[target for letter in range(inputs) for target in row[letter::inputs]] for row in parity.rows]
    other = complement_parity(parity)
    return ParityAutomaton(parity.letters, parity.start, other.priorities, rows)


def controller(arena):
    """Return the minimized machine that chooses as the system does in a game that it wins."""
    def step(place):
        return [arena.advance(place, heard, arena.answer(place, heard)) for heard in range(arena.inputs)]

    opening = arena.chosen_opening()
    places, targets = explore([(arena.parity.start, opening)], step)
    rows = []
    for place, row in zip(places, targets):
        rows.append([(target, arena.answer(place, heard)) for heard, target in enumerate(row)])
    return minimize(Machine(arena.inputs, arena.outputs, arena.lead, opening, rows))
