"""Machines as text."""

from reactivesynth.decimals import decimal
from reactivesynth.errors import InvalidMachine, MachineSyntaxError
from reactivesynth.machines import Machine
from reactivesynth.reading import natural, whole


def format_machine(machine):
    """Return the text of a machine."""
    sizes = [machine.inputs, machine.outputs, machine.lead]
    lines = [" ".join(["machine"] + [decimal(size) for size in sizes])]
    lines.append(" ".join(["opening"] + [decimal(letter) for letter in machine.opening]))
    for row in machine.rows:
        lines.append(" ".join([decimal(target) + "/" + decimal(letter) for target, letter in row]))
    return "".join([line + "\n" for line in lines])


def parse_machine(text):
    """Return the machine that a text writes."""
    lines = text.split("\n")
    # What follows the last line feed is no line, so it must be empty.
    if len(lines) < 4 or lines[-1] != "":
        raise MachineSyntaxError("a machine has at least three lines, each with a line feed at its end")
    inputs, outputs, lead = read_sizes(lines[0])
    opening = read_opening(lines[1])
    rows = [[read_move(piece) for piece in line.split(" ")] for line in lines[2:-1]]
    try:
        return Machine(inputs, outputs, lead, opening, rows)
    except InvalidMachine:
        raise MachineSyntaxError("the text has the form of a machine, but there is no such machine") from None


def read_sizes(line):
    """Return the numbers of letters that the machine may hear and say, and its lead."""
    pieces = line.split(" ")
    if len(pieces) != 4 or pieces[0] != "machine":
        raise MachineSyntaxError("the first line is the word machine and three numbers")
    return read_natural(pieces[1]), read_natural(pieces[2]), checked(whole(pieces[3]))


def read_opening(line):
    """Return the list of the letters of the opening."""
    pieces = line.split(" ")
    if pieces[0] != "opening":
        raise MachineSyntaxError("the second line begins with the word opening")
    return [read_natural(piece) for piece in pieces[1:]]


def read_move(piece):
    """Return the pair of the next state and the letter that a piece of a row writes."""
    parts = piece.split("/")
    if len(parts) != 2:
        raise MachineSyntaxError("an entry of a row is two numbers with a slash between them")
    return read_natural(parts[0]), read_natural(parts[1])


def read_natural(text):
    """Return the number that a text writes without a sign."""
    return checked(natural(text))


def checked(number):
    """Return a number that has been read; None stands for a text that writes none."""
    if number is None:
        raise MachineSyntaxError("a number has decimal digits without leading zeros")
    return number
