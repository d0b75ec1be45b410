"""Points 2 and 4 for every function: arguments stay as they are, and equal arguments give equal results."""

import copy
import unittest

from reactivesynth import errors
from reactivesynth.buchi import Automaton, accepts, find_word
from reactivesynth.certificates import audit, write_certificate
from reactivesynth.checking import breaking_word
from reactivesynth.comparison import complement, equivalent, included
from reactivesynth.congruence import exponent, separating_context
from reactivesynth.description import describe
from reactivesynth.determinization import determinize
from reactivesynth.expressions import automaton_expression, contains, expression_automaton, matches
from reactivesynth.formulas import normal_form, signal_names, temporal_count
from reactivesynth.games import Game, choices_win, distances
from reactivesynth.journals import Journal, recover
from reactivesynth.machines import Machine, respond, trace
from reactivesynth.machinetext import format_machine, parse_machine
from reactivesynth.minimization import minimize, separating_word
from reactivesynth.monitors import Monitor
from reactivesynth.operations import hide, intersection, trim, union, widen
from reactivesynth.parity import ParityAutomaton, accepts_parity, complement_parity, quotient, to_buchi
from reactivesynth.parsing import parse_property
from reactivesynth.plays import play
from reactivesynth.printing import format_property
from reactivesynth.prospects import prospects
from reactivesynth.smallest import smallest_system
from reactivesynth.solving import Solution, solve
from reactivesynth.specs import Spec, dual, satisfies, spec_automaton
from reactivesynth.spectext import format_spec, parse_spec
from reactivesynth.synthesis import Verdict, synthesize
from reactivesynth.translation import translate
from reactivesynth.truth import holds, truth_word
from reactivesynth.words import combine, first_difference, letter_at, make_lasso, relabel, suffix

FORMULA = ("since", ("next", ("signal", "a")), ("iff", ("signal", "b"), ("always", ("signal", "a"))))
HIDDEN = ("exists", ("h",), ("and", FORMULA, ("eventually", ("signal", "h"))))
LASSO = ((1, 0, 1), (0, 1, 0, 1))
BUCHI = (2, [0, 1], [0, 2], [[[0, 1], [2]], [[], [1, 2]], [[0, 1, 2], []]])
PARITY = (2, 1, [0, 3, 2], [[0, 1], [2, 2], [1, 0]])
OTHER_BUCHI = (2, [0], [0], [[[0], []]])
MACHINE = (2, 2, -1, [0], [[(1, 0), (0, 1)], [(0, 1), (1, 0)], [(2, 0), (2, 0)]])
OPPONENT = (2, 2, 0, [], [[(0, 1), (0, 0)]])
SPEC = (["a"], ["b"], 0, [FORMULA], [HIDDEN, FORMULA])
GAME = ([0, 1, 1], [2, 1, 0], [[1, 2], [0, 1], [0, 2]])
TEXT = "machine 2 2 -1\nopening 0\n0/0 0/1\n"
PAIRS = ((("star", ("letter", 0)), ("join", ("letter", 1), ("star", ("letter", 0)))), (("empty",), ("letter", 0)))

OBJECTS = (Automaton, ParityAutomaton, Game, Solution, Machine, Spec, Verdict, Monitor, Journal)


def read_three(spec):
    """Return a monitor that has read three letters."""
    monitor = Monitor(spec)
    for letter in (0, 3, 1):
        monitor.read(letter)
    return monitor


def hear_three(machine):
    """Return a journal that has heard three letters."""
    journal = Journal(machine, spacing=2)
    for letter in (0, 1, 1):
        journal.hear(letter)
    return journal


CALLS = (
    (make_lasso, [1, 0], [1, 0]), (letter_at, LASSO, 5), (suffix, LASSO, 4), (relabel, LASSO, [1, 0]),
    (combine, LASSO, ((), (1, 1, 0)), 2), (first_difference, LASSO, ((), (1, 0, 1))),
    (normal_form, FORMULA), (temporal_count, FORMULA), (signal_names, FORMULA),
    (parse_property, "exists h: G(h -> a)", ["a"]), (format_property, HIDDEN),
    (holds, FORMULA, ["a", "b"], LASSO), (holds, HIDDEN, ["a", "b"], LASSO), (truth_word, FORMULA, ["a", "b"], LASSO),
    (Automaton,) + BUCHI, (accepts, Automaton(*BUCHI), LASSO), (find_word, Automaton(*BUCHI)),
    (union, Automaton(*BUCHI), Automaton(*BUCHI)), (intersection, Automaton(*BUCHI), Automaton(*BUCHI)),
    (hide, Automaton(*BUCHI), 1), (widen, Automaton(*BUCHI), 4), (trim, Automaton(*BUCHI)),
    (ParityAutomaton,) + PARITY, (accepts_parity, ParityAutomaton(*PARITY), LASSO),
    (complement_parity, ParityAutomaton(*PARITY)), (quotient, ParityAutomaton(*PARITY)),
    (to_buchi, ParityAutomaton(*PARITY)), (determinize, Automaton(*BUCHI)),
    (complement, Automaton(*BUCHI)), (included, Automaton(*BUCHI), Automaton(*OTHER_BUCHI)),
    (equivalent, Automaton(*OTHER_BUCHI), Automaton(*BUCHI)), (translate, FORMULA, ["a", "b"]),
    (translate, HIDDEN, ["b", "a"]), (describe, Automaton(*BUCHI), ["a"]),
    (Game,) + GAME, (distances, Game(*GAME), 1, [2, 0, 2]), (choices_win, Game(*GAME), 1, [1, 1, -1], 1),
    (Solution, [0, 1], [1, -1]), (solve, Game(*GAME)),
    (Machine,) + MACHINE, (Machine.__call__, Machine(*MACHINE), [1, 0, 1]), (respond, Machine(*MACHINE), LASSO),
    (trace, Machine(*MACHINE), LASSO), (play, Machine(*MACHINE), Machine(*OPPONENT)), (minimize, Machine(*MACHINE)),
    (separating_word, Machine(*MACHINE), Machine(2, 2, -1, [0], [[(0, 0), (0, 0)]])),
    (format_machine, Machine(*MACHINE)), (parse_machine, TEXT),
    (Spec,) + SPEC, (satisfies, Spec(*SPEC), LASSO), (dual, Spec(*SPEC)), (spec_automaton, Spec(*SPEC)),
    (spec_automaton, dual(Spec(*SPEC))),
    (format_spec, Spec(*SPEC)), (parse_spec, "inputs a\noutputs b\nlead 0\nguarantee exists h: G(h -> a)\nnegated\n"),
    (Verdict, False, Machine(*MACHINE)), (synthesize, Spec(*SPEC)), (synthesize, dual(Spec(*SPEC))),
    (breaking_word, Spec(["a"], ["b"], -1, [], [FORMULA]), Machine(*MACHINE)),
    (prospects, Spec(*SPEC), [0, 3, 1]), (Monitor, Spec(*SPEC)), (read_three, Spec(*SPEC)),
    (Journal, Machine(*MACHINE)), (hear_three, Machine(*MACHINE)),
    (recover, Machine(*MACHINE), "journal 2\nheard 0\nheard 1\nsta"), (write_certificate, Spec(*SPEC)),
    (audit, Spec(["a"], ["b"], -1, [], [FORMULA]), "realizable\n" + TEXT), (exponent, Automaton(*BUCHI)),
    (separating_context, Automaton(*BUCHI), [0, 1], [1]), (matches, PAIRS[0][1], [1, 0, 0]), (contains, PAIRS, LASSO),
    (expression_automaton, PAIRS, 2), (automaton_expression, Automaton(*BUCHI)),
    (smallest_system, Spec(["a"], ["b"], 0, [], [("always", ("eventually", ("signal", "b")))]), 2),
)
WRONG_CALLS = (
    (make_lasso, [1], []), (make_lasso, [-1], [0]), (letter_at, LASSO, -1), (suffix, LASSO, -1), (relabel, LASSO, [0]),
    (parse_property, "a b", ["a"]), (parse_property, "exists a: a", ["a"]), (parse_property, "b", ["a"]),
    (parse_property, "X" * 9 + "a", ["a"]), (holds, FORMULA, ["a", "b"], ((4,), (0,))),
    (truth_word, FORMULA, ["a", "b"], ((), (4,))), (Automaton, 1, [1], [], [[[]]]),
    (accepts, Automaton(*BUCHI), ((), (2,))), (hide, Automaton(*BUCHI), 3), (widen, Automaton(*BUCHI), 3),
    (union, Automaton(*BUCHI), Automaton(1, [], [], [[[]]])), (ParityAutomaton, 1, 0, [0], [[1]]),
    (intersection, Automaton(*BUCHI), Automaton(1, [], [], [[[]]])),
    (accepts_parity, ParityAutomaton(*PARITY), ((2,), (0,))),
    (included, Automaton(*BUCHI), Automaton(1, [], [], [[[]]])),
    (equivalent, Automaton(*BUCHI), Automaton(1, [], [], [[[]]])), (describe, Automaton(*BUCHI), ["a", "b"]),
    (describe, Automaton(1, [], [], [[[]]] * 5), []), (Game, [2], [0], [[0]]), (distances, Game(*GAME), 0, [1, 3]),
    (choices_win, Game(*GAME), 0, [1, -1, -1], 3),
    (Machine, 2, 2, -1, [0], [[(0, 0)]]), (Machine.__call__, Machine(*MACHINE), [0, 2]),
    (respond, Machine(*MACHINE), ((2,), (0,))), (trace, Machine(*MACHINE), ((), (3,))),
    (play, Machine(*MACHINE), Machine(*MACHINE)), (separating_word, Machine(*MACHINE), Machine(*OPPONENT)),
    (parse_machine, "machine"), (Spec, ["a"], ["a"], 0, [], []), (satisfies, Spec(*SPEC), ((4,), (0,))),
    (parse_spec, ""), (parse_spec, "inputs\noutputs\nlead 0\nassume a b\n"),
    (parse_spec, "inputs\noutputs\nlead 0\nassume a\n"),
    (parse_spec, "inputs a\noutputs\nlead 0\nassume exists a: a\n"),
    (parse_spec, "inputs a\noutputs\nlead 0\nassume XXXXXa\nassume XXXXXa\n"),
    (breaking_word, Spec(*SPEC), Machine(*MACHINE)), (prospects, Spec(*SPEC), [0, 4]),
    (Monitor.read, Monitor(Spec(*SPEC)), 4), (Journal.hear, hear_three(Machine(*MACHINE)), 2),
    (recover, Machine(*MACHINE), "journal 0\n"), (audit, Spec(*SPEC), TEXT),
    (audit, Spec(*SPEC), "realizable\n" + TEXT), (expression_automaton, PAIRS, 1),
    (automaton_expression, Automaton(5, [], [], [[[]] * 5])),
)


def shown(value):
    """Return a value with the attributes of an object in the place of it."""
    if isinstance(value, OBJECTS):
        return [(name, shown(kept)) for name, kept in sorted(vars(value).items())]
    if isinstance(value, (list, tuple)):
        return type(value)(shown(item) for item in value)
    return value


class PromiseTest(unittest.TestCase):
    def test_arguments_stay(self):
        for function, *arguments in CALLS:
            with self.subTest(function.__name__):
                before = copy.deepcopy(shown(arguments))
                function(*arguments)
                self.assertEqual(shown(arguments), before)

    def test_equal_arguments_give_equal_results(self):
        for function, *arguments in CALLS:
            with self.subTest(function.__name__):
                first = function(*arguments)
                self.assertEqual(shown(function(*copy.deepcopy(arguments))), shown(first))

    def test_every_error_stands_below_the_base(self):
        for function, *arguments in WRONG_CALLS:
            with self.subTest(function.__name__):
                before = copy.deepcopy(shown(arguments))
                with self.assertRaises(errors.SynthError):
                    function(*arguments)
                self.assertEqual(shown(arguments), before)


if __name__ == "__main__":
    unittest.main()
