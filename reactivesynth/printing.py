"""Writing a property as text."""

from reactivesynth.signs import CONSTANTS, INFIX_SIGNS, PREFIX_SIGNS, is_quantified


def format_property(prop):
    """Return the printed form of a property."""
    if not is_quantified(prop):
        return format_formula(prop)
    word, hidden, formula = prop
    names = ", ".join(hidden)
    return f"{word} {names}: {format_formula(formula)}"


def format_formula(formula):
    """Return the printed form of a formula."""
    kind = formula[0]
    if kind in CONSTANTS:
        return kind
    if kind == "signal":
        return formula[1]
    first = format_formula(formula[1])
    if kind in PREFIX_SIGNS:
        return PREFIX_SIGNS[kind] + first
    second = format_formula(formula[2])
    return f"({first} {INFIX_SIGNS[kind]} {second})"
