"""How a finite word can go on."""

from reactivesynth.buchi import Automaton, find_word, successors
from reactivesynth.errors import InvalidLetter
from reactivesynth.specs import opposite, spec_automaton
from reactivesynth.words import shortest_lasso


def prospects(spec, word):
    """Return two lassos that begin with a word: one that satisfies the specification, and one that does not.

    In the place of a lasso that does not exist stands None.
    """
    for letter in word:
        if letter < 0 or letter >= 1 << len(spec.signals):
            raise InvalidLetter("this is no letter over the signals of the specification")
    return continued(spec_automaton(spec), word), continued(spec_automaton(opposite(spec)), word)


def continued(automaton, word):
    """Return an accepted lasso that begins with a word, or None if there is none."""
    states = automaton.initial
    for letter in word:
        states = successors(automaton, states, letter)
    found = find_word(Automaton(automaton.letters, states, automaton.accepting, automaton.rows))
    if found is None:
        return None
    return shortest_lasso(tuple(word) + found[0], found[1])
