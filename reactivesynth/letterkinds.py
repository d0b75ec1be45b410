"""Kinds of letters: letters that make the same parts of a formula true."""

from reactivesynth.masks import bit_column, bits_at
from reactivesynth.parts import plain_truth


def letter_kinds(parts, used, visible, hidden):
    """Return the kinds of the letters over the visible signals, and the kind of each letter.

    A kind is a tuple of masks of those used parts that are true for some
    values of the hidden signals. The used parts look at their own turn alone.
    """
    columns = truth_columns(parts, visible + hidden)
    used_columns = [columns[at] for at in used]
    places = [1 << at for at in used]
    numbers = {}
    kind_of = []
    for letter in range(1 << visible):
        cases = [bits_at(used_columns, letter | (value << visible)) for value in range(1 << hidden)]
        kind = tuple([spread(bits, places) for bits in sorted(set(cases))])
        numbers.setdefault(kind, len(numbers))
        kind_of.append(numbers[kind])
    return list(numbers), kind_of


def spread(bits, places):
    """Return the mask with those places whose bits are 1."""
    mask = 0
    for at, place in enumerate(places):
        if (bits >> at) & 1 == 1:
            mask = mask | place
    return mask


def truth_columns(parts, signals):
    """Return for each part that looks at its own turn alone the mask of the letters at which it is true."""
    full = (1 << (1 << signals)) - 1
    columns = []
    for kind, first, second in parts:
        if kind == "signal":
            columns.append(bit_column(first, signals))
        else:
            left = columns[first] if first >= 0 else 0
            right = columns[second] if second >= 0 else 0
            columns.append(plain_truth(kind, left, right, full))
    return columns
