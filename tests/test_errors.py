"""Point 4 and the interface of reactivesynth/errors.py."""

import unittest

from reactivesynth import errors

PLAIN = ("EmptyLoop", "InvalidLetter", "InvalidTurn", "TooLarge", "Mismatch", "InvalidAutomaton", "InvalidGame",
         "InvalidPosition", "InvalidMachine", "MachineSyntaxError", "InvalidSpec", "BadJournal",
         "CertificateSyntaxError")
WITH_ATTRIBUTE = (("FormulaSyntaxError", "position", 5), ("DuplicateSignal", "name", "ab1"),
                  ("UnknownSignal", "name", "q"), ("SpecSyntaxError", "line", 3))


class ErrorTest(unittest.TestCase):
    def test_base_stands_directly_below_value_error(self):
        self.assertEqual(errors.SynthError.__bases__, (ValueError,))

    def test_each_class_stands_directly_below_the_base(self):
        for name in PLAIN + tuple(row[0] for row in WITH_ATTRIBUTE):
            with self.subTest(name):
                self.assertEqual(getattr(errors, name).__bases__, (errors.SynthError,))

    def test_each_class_is_defined_in_its_file(self):
        for name in ("SynthError",) + PLAIN + tuple(row[0] for row in WITH_ATTRIBUTE):
            with self.subTest(name):
                self.assertEqual(getattr(errors, name).__module__, "reactivesynth.errors")
                self.assertEqual(getattr(errors, name).__name__, name)

    def test_plain_errors_are_raised_with_a_message(self):
        for name in ("SynthError",) + PLAIN:
            with self.subTest(name):
                with self.assertRaises(errors.SynthError) as caught:
                    raise getattr(errors, name)("why")
                self.assertEqual(str(caught.exception), "why")

    def test_attributes(self):
        for name, attribute, value in WITH_ATTRIBUTE:
            with self.subTest(name):
                error = getattr(errors, name)(value)
                self.assertEqual(getattr(error, attribute), value)
                self.assertIn(str(value), str(error))


if __name__ == "__main__":
    unittest.main()
