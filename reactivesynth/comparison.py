"""Complement and comparison of Buchi automata."""

from reactivesynth.buchi import find_word
from reactivesynth.determinization import determinize
from reactivesynth.operations import check_same_letters, intersection
from reactivesynth.parity import complement_parity, to_buchi
from reactivesynth.reduction import reduced


def complement(automaton):
    """Return a Buchi automaton for the words that a Buchi automaton does not accept."""
    return reduced(to_buchi(complement_parity(determinize(reduced(automaton)))))


def included(first, second):
    """Return a lasso whose word the first automaton accepts and the second does not, or None if there is none."""
    check_same_letters(first, second)
    return find_word(intersection(reduced(first), complement(second)))


def equivalent(first, second):
    """Return a lasso whose word exactly one of two automata accepts, or None if there is none."""
    lasso = included(first, second)
    if lasso is None:
        return included(second, first)
    return lasso
