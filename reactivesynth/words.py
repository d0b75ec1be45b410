"""Words without end, written as lassos (head, loop)."""

from math import lcm

from reactivesynth.errors import EmptyLoop, InvalidLetter, InvalidTurn


def make_lasso(head, loop):
    """Return the normal form of the lasso with this head and loop."""
    if len(loop) == 0:
        raise EmptyLoop("a loop has at least one letter")
    if min(loop) < 0 or min(head, default=0) < 0:
        raise InvalidLetter("a letter is not negative")
    return shortest_lasso(head, loop)


def shortest_lasso(head, loop):
    """Return the lasso of the same word with the shortest head and loop."""
    size = shortest_period(loop)
    kept = len(head)
    # While the head ends like the loop, the loop can begin one turn earlier.
    while kept > 0 and head[kept - 1] == loop[(kept - 1 - len(head)) % size]:
        kept -= 1
    cut = (kept - len(head)) % size
    return tuple(head[:kept]), tuple(loop[cut:size]) + tuple(loop[:cut])


def shortest_period(loop):
    """Return the length of the shortest word whose repetition is the loop."""
    # borders[k] is the length of the longest word that is both a beginning
    # and an end of the first k + 1 letters, but not all of them.
    borders = [0]
    border = 0
    for at in range(1, len(loop)):
        while border > 0 and loop[at] != loop[border]:
            border = borders[border - 1]
        if loop[at] == loop[border]:
            border += 1
        borders.append(border)
    size = len(loop) - border
    return size if len(loop) % size == 0 else len(loop)


def letter_at(lasso, turn):
    """Return the letter of the word at a turn."""
    if turn < 0:
        raise InvalidTurn("a turn is not negative")
    head, loop = lasso
    if turn < len(head):
        return head[turn]
    return loop[(turn - len(head)) % len(loop)]


def suffix(lasso, turns):
    """Return the lasso of the word without its first letters."""
    if turns < 0:
        raise InvalidTurn("a number of turns is not negative")
    head, loop = lasso
    if turns < len(head):
        return shortest_lasso(head[turns:], loop)
    cut = (turns - len(head)) % len(loop)
    return shortest_lasso((), loop[cut:] + loop[:cut])


def relabel(lasso, table):
    """Return the lasso of the word with table[a] in the place of each letter a."""
    check_letters(lasso, len(table))
    head, loop = lasso
    return shortest_lasso([table[letter] for letter in head], [table[letter] for letter in loop])


def check_letters(lasso, letters):
    """Raise InvalidLetter if a letter of the lasso is not below letters."""
    head, loop = lasso
    if max(head + loop) >= letters:
        raise InvalidLetter("a letter is too large")


def combine(first, second, size):
    """Return the lasso of the word of the letters a + size * b, a of the first word, b of the second."""
    # The loops come together after as many turns as the least common multiple
    # of their lengths, so each of them should be as short as it can be.
    short_first = shortest_lasso(first[0], first[1])
    short_second = shortest_lasso(second[0], second[1])
    start = max(len(short_first[0]), len(short_second[0]))
    turns = start + lcm(len(short_first[1]), len(short_second[1]))
    letters = [letter_at(short_first, turn) + size * letter_at(short_second, turn) for turn in range(turns)]
    return shortest_lasso(letters[:start], letters[start:])


def first_difference(first, second):
    """Return the first turn at which the words differ, or None if they are the same."""
    bound = max(len(first[0]), len(second[0])) + len(first[1]) + len(second[1])
    for turn in range(bound):
        if letter_at(first, turn) != letter_at(second, turn):
            return turn
    return None
