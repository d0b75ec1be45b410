"""Profiles of non-empty finite words, which tell what a Buchi automaton does on them.

A profile has for each state a pair of masks: the states to which a run on the
word leads from there, and those of them to which one leads that is in an
accepting state after some letter of the word. Words with the same profile
are congruent, and there are finitely many profiles.
"""

from reactivesynth.graphs import explore
from reactivesynth.masks import mask_of, numbers_of


class Profiles:
    """The profiles of all non-empty words over the letters of an automaton, numbered.

    words[k] is a word with profile k, rows[k] lists the profiles of the words
    that are longer than it by one letter.
    """

    def __init__(self, automaton):
        self.letters = letter_profiles(automaton)
        self.found, self.rows = explored_profiles(self.letters)
        self.numbers = {profile: at for at, profile in enumerate(self.found)}
        starts = {}
        for letter, profile in enumerate(self.letters):
            starts.setdefault(self.numbers[profile], (letter,))
        self.words = shortest_words(starts, self.rows)

    def number_of(self, word):
        """Return the number of the profile of a non-empty word."""
        number = self.numbers[self.letters[word[0]]]
        for letter in word[1:]:
            number = self.rows[number][letter]
        return number

    def product_number(self, first, second):
        """Return the number of the profile of a word with the first profile followed by one with the second."""
        return self.numbers[product_of(self.found[first], self.found[second])]


def letter_profiles(automaton):
    """Return the profile of each word of one letter."""
    accepting = mask_of(automaton.accepting)
    found = []
    for letter in range(automaton.letters):
        targets = [mask_of(row[letter]) for row in automaton.rows]
        found.append(tuple([(mask, mask & accepting) for mask in targets]))
    return found


def explored_profiles(letters):
    """Return the profiles of all words over letters with these profiles, and their graph."""
    return explore(letters, lambda profile: [product_of(profile, letter) for letter in letters])


def shortest_words(starts, rows):
    """Return for each node of a graph, which has a row with an edge for each letter, the letters on a way to it.

    starts has the words of the first nodes; the others are numbered in the
    order in which they are reached, so each has a word when its row is read.
    """
    words = {number: starts[number] for number in starts}
    for number, row in enumerate(rows):
        for letter, target in enumerate(row):
            words.setdefault(target, words[number] + (letter,))
    return [words[number] for number in range(len(rows))]


def product_of(first, second):
    """Return the profile of a word with the first profile followed by a word with the second."""
    return tuple([after(pair, second) for pair in first])


def after(pair, profile):
    """Return where runs lead that a pair of masks has led to some states, when a word with a profile follows."""
    reached, seen = pair
    all_reached = 0
    all_seen = 0
    for state in numbers_of(reached):
        all_reached = all_reached | profile[state][0]
        # A run that has been in an accepting state before keeps that.
        all_seen = all_seen | profile[state][(0 if (seen >> state) & 1 == 1 else 1)]
    return all_reached, all_seen


def image(mask, profile):
    """Return the mask of the states to which runs on a word with this profile lead from the states of a mask."""
    reached, _ = after((mask, 0), profile)
    return reached


def accepted_from(profile):
    """Return the mask of the states from which a word with this profile, repeated without end, is accepted."""
    ways = repeated(profile)
    turning = mask_of([state for state, pair in enumerate(ways) if (pair[1] >> state) & 1 == 1])
    return mask_of([state for state, pair in enumerate(ways) if pair[0] & turning != 0])


def repeated(profile):
    """Return the pairs of masks for all numbers of repetitions of a word with this profile together."""
    ways = ()
    more = profile
    while more != ways:
        ways = more
        further = product_of(ways, profile)
        more = tuple([(one[0] | two[0], one[1] | two[1]) for one, two in zip(ways, further)])
    return ways
