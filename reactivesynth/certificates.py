"""Certificates, which claim that a machine meets a specification or its dual."""

from reactivesynth.checking import breaking_word
from reactivesynth.errors import CertificateSyntaxError, MachineSyntaxError
from reactivesynth.machinetext import format_machine, parse_machine
from reactivesynth.specs import dual
from reactivesynth.synthesis import synthesize

REALIZABLE = "realizable"
UNREALIZABLE = "unrealizable"


def write_certificate(spec):
    """Return the certificate of a specification."""
    verdict = synthesize(spec)
    claim = REALIZABLE if verdict.realizable else UNREALIZABLE
    return claim + "\n" + format_machine(verdict.machine)


def audit(spec, text):
    """Return None if the claim of a certificate is true, and else a lasso that shows that it is not."""
    claim, feed, rest = text.partition("\n")
    if feed == "" or claim not in (REALIZABLE, UNREALIZABLE):
        raise CertificateSyntaxError("the first line is the word realizable or the word unrealizable")
    claimed = spec if claim == REALIZABLE else dual(spec)
    return breaking_word(claimed, read_machine(rest))


def read_machine(text):
    """Return the machine that the rest of a certificate writes."""
    try:
        return parse_machine(text)
    except MachineSyntaxError:
        raise CertificateSyntaxError("what follows the first line is not the text of a machine") from None
