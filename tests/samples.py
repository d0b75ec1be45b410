"""Samples for the tests: words, formulas and automata, chosen with a fixed seed."""

import itertools
import random

from reactivesynth.buchi import Automaton
from reactivesynth.games import Game
from reactivesynth.machines import Machine
from reactivesynth.parity import ParityAutomaton
from reactivesynth.specs import Spec

CONSTANTS = ("true", "false")
UNARY = ("not", "next", "eventually", "always", "previous", "weak_previous", "once", "historically")
BINARY = ("and", "or", "implies", "iff", "until", "weak_until", "release", "since", "trigger")
TEMPORAL = ("next", "eventually", "always", "until", "weak_until", "release",
            "previous", "weak_previous", "once", "historically", "since", "trigger")


def generator(seed):
    """Return a generator that gives the same choices in each run of the tests."""
    return random.Random(seed)


def words(letters, longest):
    """Return all finite words over the letters up to a length."""
    found = []
    for length in range(longest + 1):
        found.extend(itertools.product(range(letters), repeat=length))
    return found


def lassos(letters, longest_head, longest_loop):
    """Return all lassos up to these lengths, in every form."""
    return [(head, loop) for head in words(letters, longest_head)
            for loop in words(letters, longest_loop) if loop]


def random_lasso(chooser, letters, longest_head, longest_loop):
    """Return a lasso, hardly ever in normal form."""
    head = tuple(chooser.randrange(letters) for _ in range(chooser.randint(0, longest_head)))
    loop = tuple(chooser.randrange(letters) for _ in range(chooser.randint(1, longest_loop)))
    return head, loop * chooser.randint(1, 2)


def unrolled(lasso, turns):
    """Return the first letters of the word of a lasso."""
    head, loop = lasso
    letters = list(head)
    while len(letters) < turns:
        letters.extend(loop)
    return letters[:turns]


def random_formula(chooser, names, size):
    """Return a formula with about as many operators as size says."""
    if size <= 0:
        if not names or chooser.random() < 0.1:
            return (chooser.choice(CONSTANTS),)
        return ("signal", chooser.choice(names))
    if chooser.random() < 0.5:
        return (chooser.choice(UNARY), random_formula(chooser, names, size - 1))
    left = chooser.randint(0, size - 1)
    return (chooser.choice(BINARY), random_formula(chooser, names, left),
            random_formula(chooser, names, size - 1 - left))


def random_automaton(chooser, states, letters):
    """Return a Buchi automaton; some are dense, others have dead ends."""
    density = chooser.choice((1.0, 1.4, 2.0)) / states
    share = chooser.choice((0.2, 0.5))

    def some(chance):
        return [state for state in range(states) if chooser.random() < chance]

    return Automaton(letters, some(0.5), some(share),
                     [[some(density) for _ in range(letters)] for _ in range(states)])


def random_parity(chooser, states, letters, greatest):
    """Return a parity automaton."""
    return ParityAutomaton(letters, chooser.randrange(states),
                           [chooser.randint(0, greatest) for _ in range(states)],
                           [[chooser.randrange(states) for _ in range(letters)] for _ in range(states)])


def automaton_parts(automaton):
    """Return all attributes of a Buchi automaton."""
    return automaton.letters, automaton.initial, automaton.accepting, automaton.rows


def parity_parts(parity):
    """Return all attributes of a parity automaton."""
    return parity.letters, parity.start, parity.priorities, parity.rows


def random_game(chooser, positions, greatest, most_moves):
    """Return a parity game."""
    return Game([chooser.randrange(2) for _ in range(positions)],
                [chooser.randint(0, greatest) for _ in range(positions)],
                [sorted({chooser.randrange(positions) for _ in range(chooser.randint(1, most_moves))})
                 for _ in range(positions)])


def game_parts(game):
    """Return all attributes of a game."""
    return game.owners, game.priorities, game.moves


def random_machine(chooser, states, inputs, outputs, lead):
    """Return a machine."""
    opening = [chooser.randrange(outputs) for _ in range(max(0, -lead))]
    return Machine(inputs, outputs, lead, opening,
                   [[(chooser.randrange(states), chooser.randrange(outputs)) for _ in range(inputs)]
                    for _ in range(states)])


def machine_parts(machine):
    """Return all attributes of a machine."""
    return machine.inputs, machine.outputs, machine.lead, machine.opening, machine.rows


def random_property(chooser, names, size, hidden):
    """Return a property with as many hidden names as hidden says."""
    if hidden == 0:
        return random_formula(chooser, names, size)
    more = ["h0", "k1", "l2"][:hidden]
    return (chooser.choice(("exists", "forall")), tuple(more), random_formula(chooser, list(names) + more * 2, size))


def random_spec(chooser, inputs, outputs, size):
    """Return a specification; at most one of its properties in three has a hidden signal."""
    names = inputs + outputs

    def some():
        return [random_property(chooser, names, chooser.randint(0, size), chooser.choice((0, 0, 1)))
                for _ in range(chooser.randint(0, 2))]

    return Spec(inputs, outputs, chooser.randint(-3, 2), some(), some(), negated=chooser.random() < 0.5)


def spec_parts(spec):
    """Return all attributes of a specification."""
    return spec.inputs, spec.outputs, spec.lead, spec.assumptions, spec.guarantees, spec.negated
