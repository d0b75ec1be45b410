"""The parts of a formula, numbered, and what its operators compute.

Truth is computed with integers. Each bit of an integer stands for one case,
and it is 1 if something is true in that case. An integer in which the bits
of all cases are 1 is called full.
"""

from reactivesynth.formulas import operands, subformulas

# Operators that only look at the turn next to their own.
STEPS = ("next", "previous", "weak_previous")

# Operators that are true where nothing in the turns they look at says otherwise.
TRUE_BEYOND = ("weak_previous", "historically", "trigger", "always", "release", "weak_until")


def number_parts(formula, names):
    """Return the different parts of a formula, operands before what consists of them.

    A part is a tuple of its kind and of the numbers of its two operands, or
    -1 for an operand that it does not have. In the place of the first operand
    a signal has its own number. The last part is the formula.
    """
    parts = []
    numbers = {}
    waiting = []
    # Read from right to left, a part comes after its operands, the first operand last.
    for formula_part in subformulas(formula)[::-1]:
        kind = formula_part[0]
        count = len(operands(formula_part))
        if kind == "signal":
            part = (kind, names.index(formula_part[1]), -1)
        else:
            first = waiting.pop() if count > 0 else -1
            second = waiting.pop() if count > 1 else -1
            part = (kind, first, second)
        if part not in numbers:
            numbers[part] = len(parts)
            parts.append(part)
        waiting.append(numbers[part])
    return parts


def numbers_below(part):
    """Return the numbers of the operands of a part."""
    if part[0] == "signal":
        return []
    return [number for number in part[1:] if number >= 0]


def free_of(parts, kinds):
    """Return for each part whether no operator of these kinds occurs in it."""
    found = []
    for part in parts:
        found.append(part[0] not in kinds and all([found[below] for below in numbers_below(part)]))
    return found


def truth_of(kind, first, second, carried, full):
    """Return the truth of a part from the truth of its operands.

    What a temporal operator needs to know of the turn after (an operator of
    the past: before) its own is carried: the truth of its operand there, if
    it is one of STEPS, and else its own truth there.
    """
    if kind in STEPS:
        return carried
    if kind in ("eventually", "once"):
        return first | carried
    if kind in ("always", "historically"):
        return first & carried
    if kind in ("release", "trigger"):
        return second & (first | carried)
    if kind in ("until", "weak_until", "since"):
        return second | (first & carried)
    return plain_truth(kind, first, second, full)


def plain_truth(kind, first, second, full):
    """Return the truth of a part that is a constant or looks at its own turn alone."""
    if kind == "not":
        return full ^ first
    if kind == "and":
        return first & second
    if kind == "or":
        return first | second
    if kind == "implies":
        return (full ^ first) | second
    if kind == "iff":
        return full ^ first ^ second
    return full if kind == "true" else 0
