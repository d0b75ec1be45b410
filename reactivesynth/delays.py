"""How a lead delays what is heard and said.

Both sides of a machine choose their letters one after the other, but the two
letters of one turn are not chosen at the same time. Those that still wait for
the other letter of their turn are kept, in the order of the turns: letters
that were heard, if the lead is not negative, and else letters that were said.
"""


def delayed(lead, kept, heard, said):
    """Return what is kept after a letter was heard and, for it, one was emitted; and the turn that is now complete.

    The turn is a pair of the letter heard and the letter said in it, or None
    as long as a positive lead is used up.
    """
    if lead < 0:
        return kept[1:] + (said,), (heard, kept[0])
    ahead = kept + (heard,)
    if len(ahead) <= lead:
        return ahead, None
    return ahead[1:], (ahead[0], said)
