"""The congruence of finite words with regard to a Buchi automaton."""

from reactivesynth.alike import alike_classes
from reactivesynth.graphs import explore
from reactivesynth.masks import mask_of
from reactivesynth.profiles import Profiles, accepted_from, image, shortest_words


class Congruence:
    """The profiles of all non-empty words, and the classes of those whose words are congruent.

    A linear context x, y, z is a word x before and a word y behind the word
    in question, and an ending z z z and so on. What matters of x is the set
    of states to which it leads, and what matters of the ending is the set of
    states from which it is accepted; few sets suffice. The trials of a
    profile are what comes of all contexts without a word y. Words are
    congruent if all longer words, by the same y, have the same trials.
    """

    def __init__(self, automaton):
        self.profiles = Profiles(automaton)
        self.sets, rows = explored_sets(automaton.initial, self.profiles.letters)
        self.words_before = shortest_words({0: ()}, rows)
        self.loops = [accepted_from(profile) for profile in self.profiles.found]
        endings = {}
        for mask, word in zip(self.loops, self.profiles.words):
            endings.setdefault(mask, word)
        self.endings = list(endings)
        self.words_behind = list(endings.values())
        self.trials = [self.trials_of(number) for number in range(len(self.loops))]
        self.classes = alike_classes(self.trials, self.profiles.rows)

    def trials_of(self, number):
        """Return for each set what comes of each ending and, last, of the circular context."""
        found = []
        for mask in self.sets:
            reached = image(mask, self.profiles.found[number])
            linear = [reached & ending != 0 for ending in self.endings]
            found.append(tuple(linear + [mask & self.loops[number] != 0]))
        return tuple(found)

    def word_between(self, one, two):
        """Return a word y behind which two profiles that are not congruent have different trials, and their numbers."""
        rows = self.profiles.rows
        words = {(one, two): ()}
        waiting = [(one, two)]
        at = 0
        while self.trials[waiting[at][0]] == self.trials[waiting[at][1]]:
            pair = waiting[at]
            at += 1
            for letter, longer in enumerate(zip(rows[pair[0]], rows[pair[1]])):
                if longer not in words:
                    words[longer] = words[pair] + (letter,)
                    waiting.append(longer)
        return words[waiting[at]], waiting[at]

    def context(self, one, two):
        """Return a context that tells words of two profiles apart that are not congruent."""
        between, (longer, other) = self.word_between(one, two)
        differing = [at for at in range(len(self.sets)) if self.trials[longer][at] != self.trials[other][at]]
        before = self.words_before[differing[0]]
        results = self.trials[longer][differing[0]]
        other_results = self.trials[other][differing[0]]
        if results[-1] != other_results[-1]:
            return "circular", before, between
        endings = [word for word, first, second in zip(self.words_behind, results, other_results) if first != second]
        return "linear", before, between, endings[0]

    def steps_to_rest(self, number):
        """Return the least k such that u^k and u^(k + 1) are congruent for the words u of a profile, or None."""
        seen = {}
        power = number
        while self.classes[power] not in seen:
            seen[self.classes[power]] = len(seen) + 1
            power = self.profiles.product_number(power, number)
        # Congruent words have congruent powers, so from here on the classes come again in turn.
        first = seen[self.classes[power]]
        return first if first == len(seen) else None


def explored_sets(states, letters):
    """Return the masks of the states to which the words over letters with these profiles lead, and their graph."""
    return explore([mask_of(states)], lambda mask: [image(mask, letter) for letter in letters])


def separating_context(automaton, first, second):
    """Return a context that makes an accepted word of exactly one of two words, or None if they are congruent."""
    congruence = Congruence(automaton)
    one = congruence.profiles.number_of(first)
    two = congruence.profiles.number_of(second)
    if congruence.classes[one] == congruence.classes[two]:
        return None
    return congruence.context(one, two)


def exponent(automaton):
    """Return the exponent of an automaton, or None if it is not aperiodic."""
    congruence = Congruence(automaton)
    members = {}
    for number, home in enumerate(congruence.classes):
        members.setdefault(home, number)
    greatest = 1
    for number in members.values():
        steps = congruence.steps_to_rest(number)
        if steps is None:
            return None
        greatest = max(greatest, steps)
    return greatest
