"""The truth of properties at the turns of a word."""

from reactivesynth.errors import InvalidTurn
from reactivesynth.formulas import FUTURE, PAST
from reactivesynth.parts import STEPS, TRUE_BEYOND, number_parts, truth_of
from reactivesynth.signs import is_quantified
from reactivesynth.tableau import satisfiable
from reactivesynth.words import check_letters, letter_at, shortest_lasso


def holds(prop, names, lasso, *, turn=0):
    """Return True if the property is true at a turn of the word of the lasso."""
    if turn < 0:
        raise InvalidTurn("a turn is not negative")
    check_letters(lasso, 1 << len(names))
    word = shortest_lasso(lasso[0], lasso[1])
    if not is_quantified(prop):
        return letter_at(truth_word(prop, names, word), turn) == 1
    quantifier, hidden, formula = prop
    if quantifier == "exists":
        return satisfiable(formula, names, hidden, word, turn)
    return not satisfiable(("not", formula), names, hidden, word, turn)


def truth_word(formula, names, lasso):
    """Return the lasso of the word that has 1 at the turns at which the formula is true, and 0 at the others."""
    check_letters(lasso, 1 << len(names))
    head, loop = shortest_lasso(lasso[0], lasso[1])
    parts = number_parts(formula, names)
    # An operator of the past may see the end of the head once round the loop,
    # and not again. So all parts come back to the same truth after as many
    # rounds as there are such operators.
    rounds = len([part for part in parts if part[0] in PAST])
    letters = head + loop * (rounds + 1)
    back = len(letters) - len(loop)
    values = part_values(parts, letters, back)[-1]
    return shortest_lasso(values[:back], values[back:])


def part_values(parts, letters, back):
    """Return the truth of each part (0 or 1) at each turn of a word that has turn back after its last turn."""
    nothing = [0] * len(letters)
    found = []
    for kind, first, second in parts:
        if kind == "signal":
            found.append([(letter >> first) & 1 for letter in letters])
            continue
        left = found[first] if first >= 0 else nothing
        right = found[second] if second >= 0 else nothing
        if kind in PAST:
            found.append(past_values(kind, left, right))
        elif kind in FUTURE:
            found.append(future_values(kind, left, right, back))
        else:
            found.append([truth_of(kind, one, two, 0, 1) for one, two in zip(left, right)])
    return found


def past_values(kind, left, right):
    """Return the truth of an operator of the past from that of its operands."""
    values = []
    carried = 1 if kind in TRUE_BEYOND else 0
    for one, two in zip(left, right):
        value = truth_of(kind, one, two, carried, 1)
        values.append(value)
        carried = one if kind in STEPS else value
    return values


def future_values(kind, left, right, back):
    """Return the truth of an operator of the future from that of its operands."""
    values = [0] * len(left)
    carried = 1 if kind in TRUE_BEYOND else 0
    # One way back through the loop tells what is true where it begins; so the
    # second way knows what comes after the end of the loop.
    turns = list(range(len(left))) + list(range(back, len(left)))
    for turn in turns[::-1]:
        values[turn] = truth_of(kind, left[turn], right[turn], carried, 1)
        carried = left[turn] if kind in STEPS else values[turn]
    return values
