"""Formulas of linear temporal logic, written as tuples."""

TRUE = ("true",)
FALSE = ("false",)

FUTURE = ("next", "eventually", "always", "until", "weak_until", "release")
PAST = ("previous", "weak_previous", "once", "historically", "since", "trigger")

# The operator that stands in the place of another one where a negation is pushed inwards.
DUALS = {
    "and": "or",
    "or": "and",
    "next": "next",
    "until": "release",
    "release": "until",
    "previous": "weak_previous",
    "weak_previous": "previous",
    "since": "trigger",
    "trigger": "since",
}

# Operators with one operand that the normal form writes with two: the
# operator there and its first operand, then the same for the negation.
WRITTEN_OUT = {
    "eventually": ("until", "true", "release", "false"),
    "always": ("release", "false", "until", "true"),
    "once": ("since", "true", "trigger", "false"),
    "historically": ("trigger", "false", "since", "true"),
}


def operands(formula):
    """Return the formulas of which a formula directly consists."""
    if formula[0] == "signal":
        return ()
    return formula[1:]


def subformulas(formula):
    """Return the formula and all its parts, each occurrence, as they are read from left to right."""
    found = []
    waiting = [formula]
    while len(waiting) > 0:
        part = waiting.pop()
        found.append(part)
        waiting.extend(operands(part)[::-1])
    return found


def count_operators(formula, kinds):
    """Return how often operators of these kinds occur in a formula."""
    return len([part for part in subformulas(formula) if part[0] in kinds])


def temporal_count(formula):
    """Return the number of temporal operators in a formula."""
    return count_operators(formula, FUTURE + PAST)


def depth(formula):
    """Return the depth of a formula."""
    deepest = 0
    waiting = [(formula, 1)]
    while len(waiting) > 0:
        part, level = waiting.pop()
        deepest = max(deepest, level)
        waiting.extend([(below, level + 1) for below in operands(part)])
    return deepest


def signal_names(formula):
    """Return the names of the signals in a formula in ascending order."""
    return sorted(set([part[1] for part in subformulas(formula) if part[0] == "signal"]))


def normal_form(formula):
    """Return the negation normal form of a formula."""
    normal, _ = normal_pair(formula)
    return normal


def normal_pair(formula):
    """Return the normal forms of a formula and of its negation."""
    kind = formula[0]
    if kind == "true":
        return TRUE, FALSE
    if kind == "false":
        return FALSE, TRUE
    if kind == "signal":
        return formula, ("not", formula)
    yes, no = normal_pair(formula[1])
    if len(formula) == 2:
        return unary_pair(kind, yes, no)
    other_yes, other_no = normal_pair(formula[2])
    return binary_pair(kind, (yes, no), (other_yes, other_no))


def unary_pair(kind, yes, no):
    """Return the normal forms of a formula with one operand, whose normal forms are yes and no."""
    if kind == "not":
        return no, yes
    if kind in WRITTEN_OUT:
        operator, constant, dual, other_constant = WRITTEN_OUT[kind]
        return (operator, (constant,), yes), (dual, (other_constant,), no)
    return (kind, yes), (DUALS[kind], no)


def binary_pair(kind, first, second):
    """Return the normal forms of a formula with two operands, whose normal forms are first and second."""
    yes, no = first
    other_yes, other_no = second
    if kind == "implies":
        return ("or", no, other_yes), ("and", yes, other_no)
    if kind == "iff":
        same = ("or", ("and", yes, other_yes), ("and", no, other_no))
        return same, ("or", ("and", yes, other_no), ("and", no, other_yes))
    if kind == "weak_until":
        return ("release", other_yes, ("or", yes, other_yes)), ("until", other_no, ("and", no, other_no))
    return (kind, yes, other_yes), (DUALS[kind], no, other_no)
