"""The errors that the program raises."""

from reactivesynth.decimals import decimal


class SynthError(ValueError):
    """The base class of all errors of the program."""


class EmptyLoop(SynthError):
    """The loop of a lasso is empty."""


class InvalidLetter(SynthError):
    """An integer is no letter of the alphabet in question."""


class InvalidTurn(SynthError):
    """A turn, or a number of turns, is negative."""


class TooLarge(SynthError):
    """A text, a formula or an automaton is beyond a bound."""


class Mismatch(SynthError):
    """Two arguments do not fit together."""


class InvalidAutomaton(SynthError):
    """A Buchi automaton or a parity automaton is malformed."""


class InvalidGame(SynthError):
    """A parity game is malformed."""


class InvalidPosition(SynthError):
    """An integer is no position of a game."""


class InvalidMachine(SynthError):
    """A machine is malformed."""


class MachineSyntaxError(SynthError):
    """A text is not the text of any machine."""


class InvalidSpec(SynthError):
    """A specification is malformed."""


class BadJournal(SynthError):
    """A text is no beginning of a journal of the machine."""


class CertificateSyntaxError(SynthError):
    """A text is not the text of any certificate."""


class FormulaSyntaxError(SynthError):
    """A text is no property; position is where it stops to be one."""

    def __init__(self, position):
        super().__init__("no property goes on at position " + decimal(position))
        self.position = position


class DuplicateSignal(SynthError):
    """A hidden signal has the name of another signal."""

    def __init__(self, name):
        super().__init__(f"the signal {name} is there already")
        self.name = name


class UnknownSignal(SynthError):
    """A formula names a signal that there is not."""

    def __init__(self, name):
        super().__init__(f"there is no signal {name}")
        self.name = name


class SpecSyntaxError(SynthError):
    """A text is no specification; line is the index of the wrong line."""

    def __init__(self, line):
        super().__init__("there is an error in line " + decimal(line))
        self.line = line
