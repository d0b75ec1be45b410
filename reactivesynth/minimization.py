"""Machines with as few states as can be, and what tells machines apart."""

from reactivesynth.alike import without_alike
from reactivesynth.errors import Mismatch
from reactivesynth.machines import Machine


def minimize(machine):
    """Return the machine with the fewest states that is alike to a machine."""
    emitted = [tuple([letter for _, letter in row]) for row in machine.rows]
    targets = [[target for target, _ in row] for row in machine.rows]
    states, small_rows = without_alike(0, emitted, targets)
    rows = [list(zip(row, emitted[state])) for state, row in zip(states, small_rows)]
    return Machine(machine.inputs, machine.outputs, machine.lead, machine.opening, rows)


def separating_word(first, second):
    """Return the letters after which two machines are first told apart, or None if they are alike."""
    if (first.inputs, first.outputs, first.lead) != (second.inputs, second.outputs, second.lead):
        raise Mismatch("the machines do not have the same letters and the same lead")
    if first.opening != second.opening:
        return []
    # Shorter words come first and, among those of one length, the lesser ones.
    words = {(0, 0): []}
    waiting = [(0, 0)]
    at = 0
    while at < len(waiting):
        one, two = waiting[at]
        word = words[(one, two)]
        at += 1
        for letter in range(first.inputs):
            target, said = first.rows[one][letter]
            other_target, other_said = second.rows[two][letter]
            if said != other_said:
                return word + [letter]
            if (target, other_target) not in words:
                words[(target, other_target)] = word + [letter]
                waiting.append((target, other_target))
    return None
