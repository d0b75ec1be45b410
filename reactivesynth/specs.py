"""Specifications."""

from reactivesynth.errors import InvalidSpec
from reactivesynth.formulas import DUALS, FALSE, TRUE
from reactivesynth.machines import GREATEST_LEAD, LEAST_LEAD
from reactivesynth.operations import intersection, union
from reactivesynth.reading import is_name
from reactivesynth.reduction import reduced
from reactivesynth.signs import is_quantified
from reactivesynth.translation import translate
from reactivesynth.truth import holds
from reactivesynth.words import check_letters

MOST_NAMES = 3


class Spec:
    """A specification: the assumptions imply the guarantees, or, if it is negated, they do not."""

    def __init__(self, inputs, outputs, lead, assumptions, guarantees, *, negated=False):
        names = list(inputs) + list(outputs)
        if not all([is_name(name) for name in names]):
            raise InvalidSpec("a name is a word that has no other meaning")
        if len(set(names)) < len(names):
            raise InvalidSpec("all names differ")
        if len(inputs) > MOST_NAMES or len(outputs) > MOST_NAMES:
            raise InvalidSpec("there are at most three inputs and at most three outputs")
        if lead < LEAST_LEAD or lead > GREATEST_LEAD:
            raise InvalidSpec("a lead is from -3 to 2")
        self.inputs = tuple(inputs)
        self.outputs = tuple(outputs)
        self.lead = lead
        self.assumptions = tuple(assumptions)
        self.guarantees = tuple(guarantees)
        self.negated = negated

    @property
    def signals(self):
        """The tuple of the signals of the specification."""
        return self.inputs + self.outputs


def satisfies(spec, lasso):
    """Return True if the word of the lasso satisfies the specification."""
    check_letters(lasso, 1 << len(spec.signals))
    assumed = all([holds(prop, spec.signals, lasso) for prop in spec.assumptions])
    met = not assumed or all([holds(prop, spec.signals, lasso) for prop in spec.guarantees])
    return met != spec.negated


def dual(spec):
    """Return the dual specification, which opponents of the systems for the specification are to meet."""
    return Spec(spec.outputs, spec.inputs, -1 - spec.lead, spec.assumptions, spec.guarantees,
                negated=not spec.negated)


def opposite(spec):
    """Return the specification with the same signals that exactly the other words satisfy."""
    return Spec(spec.inputs, spec.outputs, spec.lead, spec.assumptions, spec.guarantees, negated=not spec.negated)


def spec_automaton(spec):
    """Return a Buchi automaton for the words that satisfy the specification."""
    if spec.negated:
        return nested("and", spec.assumptions, negations(spec.guarantees), spec.signals)
    return nested("or", negations(spec.assumptions), spec.guarantees, spec.signals)


def negations(props):
    """Return for each property one that is true where it is false."""
    found = []
    for prop in props:
        if is_quantified(prop):
            quantifier, hidden, formula = prop
            found.append(("forall" if quantifier == "exists" else "exists", hidden, ("not", formula)))
        else:
            found.append(("not", prop))
    return found


def nested(kind, outer, inner, names):
    """Return an automaton for the outer properties, joined by "and" or "or", and the inner ones, joined by the other.

    The inner ones together stand beside the outer ones.
    """
    other = DUALS[kind]
    if not any([is_quantified(prop) for prop in inner]):
        # One automaton for one formula is smaller than what is put together from several.
        return joined(kind, list(outer) + [chained(other, inner)], names)
    return combined(kind, joined(kind, outer, names), joined(other, inner, names))


def joined(kind, props, names):
    """Return an automaton for the words at which all ("and") or some ("or") of the properties are true."""
    found = translate(chained(kind, [prop for prop in props if not is_quantified(prop)]), names)
    for prop in props:
        if is_quantified(prop):
            found = combined(kind, found, translate(prop, names))
    return found


def chained(kind, formulas):
    """Return the formula that consists of formulas joined by "and" or "or"."""
    if len(formulas) == 0:
        return TRUE if kind == "and" else FALSE
    found = formulas[0]
    for formula in formulas[1:]:
        found = (kind, found, formula)
    return found


def combined(kind, first, second):
    """Return a small automaton for the words that both automata accept ("and"), or at least one ("or")."""
    return reduced(intersection(first, second) if kind == "and" else union(first, second))
