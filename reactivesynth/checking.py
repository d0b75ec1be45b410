"""Whether machines meet specifications."""

from reactivesynth.buchi import built_automaton, find_word, state_flags
from reactivesynth.delays import delayed
from reactivesynth.errors import Mismatch
from reactivesynth.specs import opposite, spec_automaton


def breaking_word(spec, machine):
    """Return a lasso that makes the trace of the machine break the specification, or None if the machine meets it."""
    check_system(spec, machine)
    return find_word(heard_automaton(machine, spec_automaton(opposite(spec))))


def check_system(spec, machine):
    """Raise Mismatch if the machine is not a system for the specification."""
    if machine.lead != spec.lead:
        raise Mismatch("the machine does not have the lead of the specification")
    if machine.inputs != 1 << len(spec.inputs) or machine.outputs != 1 << len(spec.outputs):
        raise Mismatch("the machine does not hear and say the letters over the signals of the specification")


def heard_automaton(machine, automaton):
    """Return a Buchi automaton for the words with whose trace, when the machine hears them, the automaton accepts."""
    def moves(node, heard):
        place, kept, state = node
        target, said = machine.rows[place][heard]
        after, turn = delayed(machine.lead, kept, heard, said)
        if turn is None:
            return [(target, after, state)]
        letter = turn[0] + machine.inputs * turn[1]
        return [(target, after, successor) for successor in automaton.rows[state][letter]]

    flags = state_flags(automaton.accepting, len(automaton.rows))

    def accepting(node):
        return flags[node[2]]

    starts = [(0, machine.opening, state) for state in automaton.initial]
    return built_automaton(machine.inputs, starts, moves, accepting)
