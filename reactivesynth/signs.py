"""The signs with which formulas are written."""

# Operators with one operand, and their signs.
PREFIX_SIGNS = {
    "not": "!",
    "next": "X",
    "eventually": "F",
    "always": "G",
    "previous": "Y",
    "weak_previous": "Z",
    "once": "O",
    "historically": "H",
}

# Operators with two operands, and their signs.
INFIX_SIGNS = {
    "iff": "<->",
    "implies": "->",
    "or": "|",
    "and": "&",
    "until": "U",
    "weak_until": "W",
    "release": "R",
    "since": "S",
    "trigger": "T",
}

QUANTIFIERS = ("exists", "forall")
CONSTANTS = ("true", "false")


def is_quantified(prop):
    """Return True if a property is no formula, but hides signals."""
    return prop[0] in QUANTIFIERS


def formula_of(prop):
    """Return the formula of a property, which may hide signals of it."""
    return prop[2] if is_quantified(prop) else prop
