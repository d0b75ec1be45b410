"""Deterministic automata with as few states as can be.

A state has a label, and row k of such an automaton lists the next states of
state k. Two states are alike if every sequence of moves leads from both to
states with the same label.
"""

from reactivesynth.graphs import explore


def without_alike(start, labels, rows):
    """Return one state for each class of alike states that can be reached from start, and the rows between them.

    The states come in the order in which they are first reached, row by row.
    In the new rows their places in this order stand for them.
    """
    reached, reached_rows = explore([start], lambda state: rows[state])
    classes = alike_classes([labels[state] for state in reached], reached_rows)
    # A class has the number that the order of the first members gives it, so
    # the first member of each class stands for it.
    members = {}
    for place, number in enumerate(classes):
        members.setdefault(number, place)
    chosen = list(members.values())
    small_rows = [[classes[target] for target in reached_rows[place]] for place in chosen]
    return [reached[place] for place in chosen], small_rows


def alike_classes(labels, rows):
    """Return for each state the number of its class. Classes are numbered by their first members."""
    classes = numbered(labels)
    count = -1
    while max(classes) > count:
        count = max(classes)
        classes = numbered([(classes[state], tuple([classes[target] for target in row]))
                            for state, row in enumerate(rows)])
    return classes


def numbered(values):
    """Return the values numbered in the order in which they first occur."""
    numbers = {}
    found = []
    for value in values:
        if value not in numbers:
            numbers[value] = len(numbers)
        found.append(numbers[value])
    return found
