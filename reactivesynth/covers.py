"""Covers: ways to make parts of a formula true at a turn.

A cover is a tuple (later, kept, marks) of masks of parts. It makes something
true at a turn if the parts in later are true at the next turn. The operators
of the past in kept can be relied on at the next turn. The promises in marks
are put off to a later turn.
"""

from reactivesynth.masks import numbers_of, within

AT_ONCE = (0, 0, 0)


def is_better(first, second):
    """Return True if the first cover asks for no more than the second and gives no less."""
    return within(first[0], second[0]) and within(second[1], first[1]) and within(first[2], second[2])


def cost(cover):
    """Return a number that is less for a cover than for all others than which it is better."""
    later, kept, marks = cover
    return len(numbers_of(later)) + len(numbers_of(marks)) - len(numbers_of(kept))


def best_covers(covers):
    """Return the different covers without those than which another one is better."""
    if len(covers) < 2:
        return list(covers)
    found = []
    for cover in sorted(sorted(set(covers)), key=cost):
        if not any([is_better(other, cover) for other in found]):
            found.append(cover)
    return found


def joined_covers(first, second):
    """Return the covers that make true what both lists of covers make true."""
    if first == [AT_ONCE]:
        return second
    if second == [AT_ONCE]:
        return first
    found = []
    for later, kept, marks in first:
        for other_later, other_kept, other_marks in second:
            found.append((later | other_later, kept | other_kept, marks | other_marks))
    return best_covers(found)
