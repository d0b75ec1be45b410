"""Expressions for finite words, and endless expressions for infinite words."""

from reactivesynth.buchi import accepts
from reactivesynth.endless import Endless, endless_automaton
from reactivesynth.errors import InvalidLetter, TooLarge
from reactivesynth.masks import numbers_of
from reactivesynth.operations import trim
from reactivesynth.positions import Positions

NONE = ("none",)
EMPTY = ("empty",)

MOST_STATES = 3
MOST_LETTERS = 4


def matches(expression, word):
    """Return True if a word is one of the words of an expression."""
    positions = Positions(expression)
    if len(word) == 0:
        return positions.nullable
    reached = positions.at_letter(positions.first, word[0])
    for letter in word[1:]:
        following = 0
        for position in numbers_of(reached):
            following = following | positions.follows[position]
        reached = positions.at_letter(following, letter)
    return reached & positions.last != 0


def contains(pairs, lasso):
    """Return True if the word of a lasso is one of the words of an endless expression."""
    head, loop = lasso
    # Letters may be great, so those that occur get numbers of their own.
    alphabet = sorted(set(head + loop))
    numbers = {letter: at for at, letter in enumerate(alphabet)}
    renamed = tuple([numbers[letter] for letter in head]), tuple([numbers[letter] for letter in loop])
    return accepts(endless_automaton(Endless(pairs), alphabet), renamed)


def expression_automaton(pairs, letters):
    """Return a Buchi automaton for the words of an endless expression over the letters below a number."""
    endless = Endless(pairs)
    for letter in endless.all_letters():
        if letter < 0 or letter >= letters:
            raise InvalidLetter("an expression has a letter that is not one of these")
    return endless_automaton(endless, list(range(letters)))


def automaton_expression(automaton):
    """Return an endless expression for the words that a Buchi automaton accepts."""
    if len(automaton.rows) > MOST_STATES or automaton.letters > MOST_LETTERS:
        raise TooLarge("the automaton has too many states or too many letters")
    useful = trim(automaton)
    pairs = [visiting_pair(useful, state) for state in useful.accepting]
    return tuple([(first, second) for first, second in pairs if first != NONE and second != NONE])


def visiting_pair(automaton, state):
    """Return the expressions for the words to the first visit of a state and for those from each visit to the next."""
    count = len(automaton.rows)
    # All runs begin at one more place, and where they come to the state is not where they leave it.
    begin = count
    goal = count + 1
    table = {(source, target): NONE for source in range(count + 2) for target in range(count + 2)}
    for source, row in enumerate(automaton.rows):
        for letter, targets in enumerate(row):
            for target in targets:
                way = (source, goal if target == state else target)
                table[way] = either(table[way], ("letter", letter))
    for source in automaton.initial:
        table[(begin, goal if source == state else source)] = EMPTY
    for between in range(count):
        if between != state:
            table = without(table, between)
    return table[(begin, goal)], table[(state, goal)]


def without(table, between):
    """Return the expressions for the ways between places when one place is taken away."""
    turns = star(table[(between, between)])
    found = {}
    for source, target in table:
        if between not in (source, target):
            detour = join(table[(source, between)], join(turns, table[(between, target)]))
            found[(source, target)] = either(table[(source, target)], detour)
    return found


def join(first, second):
    """Return an expression for a word of the first followed by a word of the second expression."""
    if first == NONE or second == NONE:
        return NONE
    if first == EMPTY:
        return second
    return first if second == EMPTY else ("join", first, second)


def either(first, second):
    """Return an expression for the words of both expressions."""
    if first == NONE or first == second:
        return second
    return first if second == NONE else ("either", first, second)


def star(expression):
    """Return an expression for any number of words of an expression, one after the other."""
    return EMPTY if expression in (NONE, EMPTY) else ("star", expression)
