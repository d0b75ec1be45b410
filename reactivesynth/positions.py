"""The places of the letters in an expression, and how a word goes through them (after Glushkov)."""

from reactivesynth.masks import numbers_of


class Positions:
    """The positions of an expression: one for each letter in it, from left to right.

    letters[k] is the letter at position k. follows[k] is the mask of the
    positions at which the letter after it can be. first and last are the
    masks of the positions of the first and of the last letter of a word, and
    nullable tells whether the empty word is one of the words.
    """

    def __init__(self, expression):
        self.letters = []
        self.follows = []
        self.first, self.last, self.nullable = self.add_part(expression)

    def add_part(self, expression):
        """Add the positions of a part; return the masks of its first and last ones, and whether it may be empty."""
        kind = expression[0]
        if kind == "letter":
            mask = 1 << len(self.letters)
            self.letters.append(expression[1])
            self.follows.append(0)
            return mask, mask, False
        if kind in ("none", "empty"):
            return 0, 0, kind == "empty"
        first, last, nullable = self.add_part(expression[1])
        if kind == "star":
            self.connect(last, first)
            return first, last, True
        other_first, other_last, other_nullable = self.add_part(expression[2])
        if kind == "either":
            return first | other_first, last | other_last, nullable or other_nullable
        self.connect(last, other_first)
        return (first | other_first if nullable else first,
                last | other_last if other_nullable else other_last,
                nullable and other_nullable)

    def connect(self, before, behind):
        """Let the letters at some positions be followed by those at other ones."""
        for position in numbers_of(before):
            self.follows[position] = self.follows[position] | behind

    def at_letter(self, mask, letter):
        """Return the mask of those positions that have this letter."""
        found = 0
        for position in numbers_of(mask):
            if self.letters[position] == letter:
                found = found | (1 << position)
        return found
