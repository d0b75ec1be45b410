"""Reading words, names of signals and numbers from text."""

from reactivesynth.signs import CONSTANTS, QUANTIFIERS

LOWER_CASE = "abcdefghijklmnopqrstuvwxyz"
DIGITS = "0123456789"


def word_at(text, at):
    """Return the word that begins at an index of a text, or the empty string if none does."""
    end = at
    while end < len(text) and (text[end] in LOWER_CASE or (end > at and text[end] in DIGITS)):
        end += 1
    return text[at:end]


def is_reserved(word):
    """Return True if a word has a meaning of its own, so that it is no name."""
    return word in CONSTANTS or word in QUANTIFIERS


def is_name(text):
    """Return True if a text is the name of a signal."""
    return text != "" and word_at(text, 0) == text and not is_reserved(text)


def natural(text):
    """Return the number that a text writes in decimal digits without leading zeros, or None if it writes none."""
    if text == "" or (text[0] == "0" and len(text) > 1):
        return None
    # Digit by digit, since int takes other texts, too, and no very long ones.
    number = 0
    for character in text:
        if character not in DIGITS:
            return None
        number = 10 * number + DIGITS.index(character)
    return number


def whole(text):
    """Return the number that a text writes as natural reads it, perhaps with a minus sign before it, or None."""
    if text[:1] != "-":
        return natural(text)
    size = natural(text[1:])
    # Only a negative number has a sign.
    return None if size is None or size == 0 else -size
