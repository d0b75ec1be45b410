"""From properties to Buchi automata."""

from reactivesynth.comparison import complement
from reactivesynth.marked import built_marked
from reactivesynth.progress import Progress
from reactivesynth.reduction import small_automaton
from reactivesynth.signs import is_quantified


def translate(prop, names):
    """Return a Buchi automaton for the words of which the property is true at turn 0."""
    if not is_quantified(prop):
        return translated(prop, names, ())
    quantifier, hidden, formula = prop
    if quantifier == "exists":
        return translated(formula, names, hidden)
    return complement(translated(("not", formula), names, hidden))


def translated(formula, visible, hidden):
    """Return a Buchi automaton for the words that make the formula true with some values of the hidden signals."""
    progress = Progress(formula, visible, hidden)
    return small_automaton(built_marked(progress), progress.kind_of)
