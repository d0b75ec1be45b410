"""From Buchi automata to properties."""

from reactivesynth.errors import Mismatch, TooLarge
from reactivesynth.formulas import FALSE, TRUE

MOST_STATES = 4


def describe(automaton, names):
    """Return an "exists" property that is true at turn 0 of the words that the automaton accepts.

    The hidden signals are the binary digits of the states of a run.
    """
    if automaton.letters != 1 << len(names):
        raise Mismatch("the letters of the automaton are not those of the signals")
    count = len(automaton.rows)
    if count > MOST_STATES:
        raise TooLarge("the automaton has too many states")
    hidden = free_names(names, 1 if count <= 2 else 2)
    moves = FALSE
    for target in range(count):
        # The next state stands outside, so that there is one temporal operator for each target.
        move = conjunction(("next", state_is(target, hidden)), sources_of(automaton, target, names, hidden))
        moves = disjunction(moves, move)
    start = one_of(automaton.initial, hidden)
    goal = one_of(automaton.accepting, hidden)
    formula = ("and", start, ("and", ("always", moves), ("always", ("eventually", goal))))
    return "exists", tuple(hidden), formula


def free_names(names, count):
    """Return names of signals that are not among the given ones."""
    candidates = [f"h{number}" for number in range(len(names) + count)]
    return [name for name in candidates if name not in names][:count]


def state_is(state, hidden):
    """Return the formula that the hidden signals are the digits of a state."""
    digits = []
    for place, name in enumerate(hidden):
        signal = ("signal", name)
        digits.append(signal if (state >> place) & 1 == 1 else ("not", signal))
    return digits[0] if len(digits) == 1 else ("and", digits[0], digits[1])


def one_of(states, hidden):
    """Return the formula that the hidden signals are the digits of one of some states."""
    formula = FALSE
    for state in states:
        formula = disjunction(formula, state_is(state, hidden))
    return formula


def sources_of(automaton, target, names, hidden):
    """Return the formula that the target is a successor of the state for the letter of the turn."""
    formula = FALSE
    for state, row in enumerate(automaton.rows):
        letters = letter_formula([target in states for states in row], names)
        formula = disjunction(formula, conjunction(state_is(state, hidden), letters))
    return formula


def letter_formula(allowed, names):
    """Return the formula that the letter is allowed, where allowed tells it of each letter over the signals."""
    if len(names) == 0:
        return TRUE if allowed[0] else FALSE
    # The last signal has the greatest weight, so it tells the halves apart.
    half = len(allowed) // 2
    without = letter_formula(allowed[:half], names[:-1])
    along = letter_formula(allowed[half:], names[:-1])
    if without == along:
        return without
    signal = ("signal", names[-1])
    return disjunction(conjunction(signal, along), conjunction(("not", signal), without))


def conjunction(first, second):
    """Return the formula that both are true."""
    if first == FALSE or second == FALSE:
        return FALSE
    if first == TRUE:
        return second
    return first if second == TRUE else ("and", first, second)


def disjunction(first, second):
    """Return the formula that one of two is true."""
    if first == FALSE:
        return second
    return first if second == FALSE else ("or", first, second)
