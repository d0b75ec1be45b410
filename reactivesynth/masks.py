"""Sets of numbers as masks: integers in which number k has the weight 2 to the power k."""


def mask_of(numbers):
    """Return the mask of a list of numbers."""
    mask = 0
    for number in numbers:
        mask = mask | (1 << number)
    return mask


def numbers_of(mask):
    """Return the numbers of a mask in ascending order."""
    numbers = []
    while mask > 0:
        lowest = mask & -mask
        numbers.append(lowest.bit_length() - 1)
        mask = mask ^ lowest
    return numbers


def within(mask, other):
    """Return True if each number of a mask is a number of the other mask."""
    return mask & ~other == 0


def bit_column(bit, bits):
    """Return the mask of all numbers of so many bits in which the bit with this number is 1."""
    size = 1 << bit
    column = ((1 << size) - 1) << size
    for doubling in range(bit + 1, bits):
        column = column | (column << (1 << doubling))
    return column


def bits_at(columns, case):
    """Return the bits that columns have in a case, as one integer."""
    bits = 0
    for at, column in enumerate(columns):
        bits = bits | (((column >> case) & 1) << at)
    return bits
