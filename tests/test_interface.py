"""The interface: names, arguments and the files in which they are defined."""

import importlib
import inspect
import unittest

FUNCTIONS = {
    "words": {"make_lasso": "(head, loop)", "letter_at": "(lasso, turn)", "suffix": "(lasso, turns)",
              "relabel": "(lasso, table)", "combine": "(first, second, size)", "first_difference": "(first, second)"},
    "formulas": {"normal_form": "(formula)", "temporal_count": "(formula)", "signal_names": "(formula)"},
    "parsing": {"parse_property": "(text, names)"},
    "printing": {"format_property": "(prop)"},
    "truth": {"holds": "(prop, names, lasso, *, turn=0)", "truth_word": "(formula, names, lasso)"},
    "buchi": {"accepts": "(automaton, lasso)", "find_word": "(automaton)"},
    "operations": {"union": "(first, second)", "intersection": "(first, second)", "hide": "(automaton, letters)",
                   "widen": "(automaton, letters)", "trim": "(automaton)"},
    "parity": {"accepts_parity": "(parity, lasso)", "complement_parity": "(parity)", "quotient": "(parity)",
               "to_buchi": "(parity)"},
    "determinization": {"determinize": "(automaton)"},
    "comparison": {"complement": "(automaton)", "included": "(first, second)", "equivalent": "(first, second)"},
    "translation": {"translate": "(prop, names)"},
    "description": {"describe": "(automaton, names)"},
    "games": {"distances": "(game, player, targets)", "choices_win": "(game, player, choices, position)"},
    "solving": {"solve": "(game)"},
}
CLASSES = {
    "buchi": {"Automaton": "(letters, initial, accepting, rows)"},
    "parity": {"ParityAutomaton": "(letters, start, priorities, rows)"},
    "games": {"Game": "(owners, priorities, moves)"},
    "solving": {"Solution": "(winners, choices)"},
}


class InterfaceTest(unittest.TestCase):
    def check(self, module_name, name, arguments):
        module = importlib.import_module("reactivesynth." + module_name)
        member = getattr(module, name)
        self.assertEqual(member.__module__, module.__name__)
        self.assertEqual(str(inspect.signature(member)), arguments)

    def test_functions(self):
        for module_name, members in FUNCTIONS.items():
            for name, arguments in members.items():
                with self.subTest(name):
                    self.check(module_name, name, arguments)

    def test_classes(self):
        for module_name, members in CLASSES.items():
            for name, arguments in members.items():
                with self.subTest(name):
                    self.check(module_name, name, arguments)
                    member = getattr(importlib.import_module("reactivesynth." + module_name), name)
                    self.assertIn("__init__", vars(member))


if __name__ == "__main__":
    unittest.main()
