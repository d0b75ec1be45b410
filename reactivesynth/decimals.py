"""Writing numbers as decimal text."""

# Python writes no number of more than some thousand digits at once, so longer ones are written piece by piece.
DIGITS_IN_A_PIECE = 18
PIECE = 1000000000000000000


def decimal(number):
    """Return a number of any length in decimal digits, with a minus sign before it if it is negative."""
    left = abs(number)
    pieces = []
    while left >= PIECE:
        left, low = divmod(left, PIECE)
        pieces.append(str(low).zfill(DIGITS_IN_A_PIECE))
    pieces.append(str(left))
    if number < 0:
        pieces.append("-")
    return "".join(pieces[::-1])
