"""Plays of a machine against an opponent."""

from reactivesynth.errors import Mismatch
from reactivesynth.words import shortest_lasso


def play(machine, opponent):
    """Return the lasso of the play of a machine and an opponent."""
    if opponent.lead != -1 - machine.lead:
        raise Mismatch("the leads do not fit together")
    if opponent.inputs != machine.outputs or opponent.outputs != machine.inputs:
        raise Mismatch("the letters do not fit together")
    if machine.lead >= 0:
        pairs, back = exchange(machine, opponent)
        letters = [heard + machine.inputs * said for said, heard in pairs]
    else:
        pairs, back = exchange(opponent, machine)
        letters = [heard + machine.inputs * said for heard, said in pairs]
    return shortest_lasso(letters[:back], letters[back:])


def exchange(listener, speaker):
    """Return the pairs of the letters that both say in each turn, until all comes again, and the turn that comes again.

    The lead of the listener is not negative. So the speaker is always ahead:
    it has said the letters of some turns to which the listener has not replied.
    """
    waiting = list(speaker.opening)
    here = 0
    for letter in waiting[:-1]:
        here, _ = listener.rows[here][letter]
    there = 0
    seen = {}
    pairs = []
    now = (here, there, tuple(waiting))
    while now not in seen:
        seen[now] = len(pairs)
        here, reply = listener.rows[here][waiting[-1]]
        pairs.append((reply, waiting[0]))
        there, following = speaker.rows[there][reply]
        waiting = waiting[1:] + [following]
        now = (here, there, tuple(waiting))
    return pairs, seen[now]
