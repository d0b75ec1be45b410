"""The interface: names, arguments and the files in which they are defined."""

import importlib
import inspect
import unittest

FUNCTIONS = {
    "words": {"make_lasso": "(head, loop)", "letter_at": "(lasso, turn)", "suffix": "(lasso, turns)",
              "relabel": "(lasso, table)", "combine": "(first, second, size)", "first_difference": "(first, second)"},
    "formulas": {"normal_form": "(formula)", "temporal_count": "(formula)", "signal_names": "(formula)"},
    "parsing": {"parse_property": "(text, names)"},
    "printing": {"format_property": "(prop)"},
    "truth": {"holds": "(prop, names, lasso, *, turn=0)", "truth_word": "(formula, names, lasso)"},
    "buchi": {"accepts": "(automaton, lasso)", "find_word": "(automaton)"},
    "operations": {"union": "(first, second)", "intersection": "(first, second)", "hide": "(automaton, letters)",
                   "widen": "(automaton, letters)", "trim": "(automaton)"},
    "parity": {"accepts_parity": "(parity, lasso)", "complement_parity": "(parity)", "quotient": "(parity)",
               "to_buchi": "(parity)"},
    "determinization": {"determinize": "(automaton)"},
    "comparison": {"complement": "(automaton)", "included": "(first, second)", "equivalent": "(first, second)"},
    "translation": {"translate": "(prop, names)"},
    "description": {"describe": "(automaton, names)"},
    "games": {"distances": "(game, player, targets)", "choices_win": "(game, player, choices, position)"},
    "solving": {"solve": "(game)"},
    "machines": {"respond": "(machine, lasso)", "trace": "(machine, lasso)"},
    "plays": {"play": "(machine, opponent)"},
    "minimization": {"minimize": "(machine)", "separating_word": "(first, second)"},
    "machinetext": {"format_machine": "(machine)", "parse_machine": "(text)"},
    "specs": {"satisfies": "(spec, lasso)", "dual": "(spec)", "spec_automaton": "(spec)"},
    "spectext": {"format_spec": "(spec)", "parse_spec": "(text)"},
    "synthesis": {"synthesize": "(spec)"},
    "checking": {"breaking_word": "(spec, machine)"},
    "prospects": {"prospects": "(spec, word)"},
    "journals": {"recover": "(machine, text)"},
    "certificates": {"write_certificate": "(spec)", "audit": "(spec, text)"},
    "congruence": {"separating_context": "(automaton, first, second)", "exponent": "(automaton)"},
    "expressions": {"matches": "(expression, word)", "contains": "(pairs, lasso)",
                    "expression_automaton": "(pairs, letters)", "automaton_expression": "(automaton)"},
    "smallest": {"smallest_system": "(spec, limit)"},
}
CLASSES = {
    "buchi": {"Automaton": "(letters, initial, accepting, rows)"},
    "parity": {"ParityAutomaton": "(letters, start, priorities, rows)"},
    "games": {"Game": "(owners, priorities, moves)"},
    "solving": {"Solution": "(winners, choices)"},
    "machines": {"Machine": "(inputs, outputs, lead, opening, rows)"},
    "specs": {"Spec": "(inputs, outputs, lead, assumptions, guarantees, *, negated=False)"},
    "synthesis": {"Verdict": "(realizable, machine)"},
    "monitors": {"Monitor": "(spec)"},
    "journals": {"Journal": "(machine, *, spacing=4)"},
}
METHODS = {
    "machines": {"Machine": {"__call__": "(self, heard)"}},
    "monitors": {"Monitor": {"read": "(self, letter)"}},
    "journals": {"Journal": {"hear": "(self, letter)"}},
}
PROPERTIES = {"specs": {"Spec": ("signals",)}, "monitors": {"Monitor": ("verdict",)},
              "journals": {"Journal": ("said",)}}


class InterfaceTest(unittest.TestCase):
    def check(self, module_name, name, arguments):
        module = importlib.import_module("reactivesynth." + module_name)
        member = getattr(module, name)
        self.assertEqual(member.__module__, module.__name__)
        self.assertEqual(str(inspect.signature(member)), arguments)

    def test_functions(self):
        for module_name, members in FUNCTIONS.items():
            for name, arguments in members.items():
                with self.subTest(name):
                    self.check(module_name, name, arguments)

    def test_classes(self):
        for module_name, members in CLASSES.items():
            for name, arguments in members.items():
                with self.subTest(name):
                    self.check(module_name, name, arguments)
                    member = getattr(importlib.import_module("reactivesynth." + module_name), name)
                    self.assertIn("__init__", vars(member))

    def test_methods(self):
        for module_name, classes in METHODS.items():
            for name, members in classes.items():
                for method, arguments in members.items():
                    with self.subTest((name, method)):
                        member = vars(getattr(importlib.import_module("reactivesynth." + module_name), name))[method]
                        self.assertEqual(str(inspect.signature(member)), arguments)

    def test_properties(self):
        for module_name, classes in PROPERTIES.items():
            for name, members in classes.items():
                for member in members:
                    with self.subTest((name, member)):
                        found = vars(getattr(importlib.import_module("reactivesynth." + module_name), name))[member]
                        self.assertIsInstance(found, property)


if __name__ == "__main__":
    unittest.main()
