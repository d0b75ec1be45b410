"""Specifications as text."""

from reactivesynth.decimals import decimal
from reactivesynth.errors import SpecSyntaxError, TooLarge
from reactivesynth.formulas import temporal_count
from reactivesynth.machines import GREATEST_LEAD, LEAST_LEAD
from reactivesynth.parsing import MOST_TEMPORAL, parse_property
from reactivesynth.printing import format_property
from reactivesynth.reading import is_name, whole
from reactivesynth.signs import formula_of
from reactivesynth.specs import MOST_NAMES, Spec

ASSUME = "assume "
GUARANTEE = "guarantee "
NEGATED = "negated"

FIRST_PROPERTY = 3
MOST_PROPERTIES = 6


def format_spec(spec):
    """Return the text of a specification."""
    lines = [" ".join(["inputs"] + list(spec.inputs))]
    lines.append(" ".join(["outputs"] + list(spec.outputs)))
    lines.append("lead " + decimal(spec.lead))
    lines.extend([ASSUME + format_property(prop) for prop in spec.assumptions])
    lines.extend([GUARANTEE + format_property(prop) for prop in spec.guarantees])
    if spec.negated:
        lines.append(NEGATED)
    return "".join([line + "\n" for line in lines])


def parse_spec(text):
    """Return the specification that a text writes."""
    pieces = text.split("\n")
    # What follows the last line feed is no line.
    lines = pieces[:-1]
    inputs = read_names(lines, 0, "inputs", [])
    outputs = read_names(lines, 1, "outputs", inputs)
    lead = read_lead(lines, 2)
    assumptions, guarantees, negated = read_properties(lines, inputs + outputs)
    if pieces[-1] != "":
        raise SpecSyntaxError(len(lines))
    if sum([temporal_count(formula_of(prop)) for prop in assumptions + guarantees]) > MOST_TEMPORAL:
        raise TooLarge("the properties have too many temporal operators together")
    return Spec(inputs, outputs, lead, assumptions, guarantees, negated=negated)


def line_at(lines, at):
    """Return a line that there must be; all lines before it are without an error."""
    if at >= len(lines):
        raise SpecSyntaxError(len(lines))
    return lines[at]


def read_names(lines, at, word, others):
    """Return the names in the line that begins with this word, which differ from the others."""
    pieces = line_at(lines, at).split(" ")
    names = pieces[1:]
    if pieces[0] != word or len(names) > MOST_NAMES or not all([is_name(name) for name in names]):
        raise SpecSyntaxError(at)
    if len(set(names + others)) < len(names) + len(others):
        raise SpecSyntaxError(at)
    return names


def read_lead(lines, at):
    """Return the lead that a line writes."""
    word, _, number = line_at(lines, at).partition(" ")
    lead = whole(number)
    if word != "lead" or lead is None or lead < LEAST_LEAD or lead > GREATEST_LEAD:
        raise SpecSyntaxError(at)
    return lead


def read_properties(lines, names):
    """Return the assumptions, the guarantees, and whether the specification is negated."""
    assumptions = []
    guarantees = []
    for at in range(FIRST_PROPERTY, len(lines)):
        line = lines[at]
        if line == NEGATED and at == len(lines) - 1:
            return assumptions, guarantees, True
        if at >= FIRST_PROPERTY + MOST_PROPERTIES:
            raise SpecSyntaxError(at)
        if line.startswith(ASSUME) and len(guarantees) == 0:
            assumptions.append(parse_property(line[len(ASSUME):], names))
        elif line.startswith(GUARANTEE):
            guarantees.append(parse_property(line[len(GUARANTEE):], names))
        else:
            raise SpecSyntaxError(at)
    return assumptions, guarantees, False
