"""How the truth of a formula at turn 0 depends on turn after turn."""

from reactivesynth.covers import AT_ONCE, best_covers, joined_covers
from reactivesynth.formulas import FUTURE, PAST, normal_form
from reactivesynth.letterkinds import letter_kinds
from reactivesynth.masks import mask_of, numbers_of
from reactivesynth.parts import STEPS, TRUE_BEYOND, free_of, number_parts, numbers_below


class Progress:
    """A formula in normal form, some of whose signals are hidden, read turn by turn.

    A state between two turns is a pair of masks of parts: the duties must be
    true at the turn to come; the memories are the operators of the past to
    which something true is carried (parts.truth_of tells what that is). Since
    no part of a normal form but a signal is negated, fewer duties and more
    memories are always better.
    """

    def __init__(self, formula, visible, hidden):
        self.parts = number_parts(normal_form(formula), list(visible) + list(hidden))
        present = free_of(self.parts, FUTURE + PAST)
        self.settled = free_of(self.parts, FUTURE)
        self.outer = [at for at in range(len(self.parts)) if not present[at]]
        self.past = [at for at in self.outer if self.parts[at][0] in PAST]
        self.used = self.used_parts(present)
        self.recalled = self.recalled_parts()
        self.kinds, self.kind_of = letter_kinds(self.parts, self.used, len(visible), len(hidden))
        self.tables = {}

    def used_parts(self, present):
        """Return the parts that look at their own turn alone and do not stand within others of this kind."""
        found = [len(self.parts) - 1] if present[-1] else []
        for at in self.outer:
            found.extend([below for below in numbers_below(self.parts[at]) if present[below]])
        return sorted(set(found))

    def recalled_parts(self):
        """Return for each part the mask of the operators of the past in it."""
        past = mask_of(self.past)
        found = []
        for at, part in enumerate(self.parts):
            mask = past & (1 << at)
            for below in numbers_below(part):
                mask = mask | found[below]
            found.append(mask)
        return found

    def start(self):
        """Return the state before turn 0."""
        memories = mask_of([at for at in self.past if self.parts[at][0] in TRUE_BEYOND])
        return 1 << (len(self.parts) - 1), memories

    def moves(self, state):
        """Return for each kind of letters the list of the moves from a state.

        A move is a pair of the next state and the promises that it puts off.
        """
        rows = []
        for classes in self.kinds:
            found = []
            for truths in classes:
                found.extend(self.covers_of(state, truths))
            rows.append([((later, kept), marks) for later, kept, marks in best_covers(found)])
        return rows

    def covers_of(self, state, truths):
        """Return the covers of all duties of a state, where truths are the used parts that are true."""
        duties, memories = state
        if (truths, memories) not in self.tables:
            self.tables[(truths, memories)] = self.covers_of_parts(truths, memories)
        table = self.tables[(truths, memories)]
        found = [AT_ONCE]
        for duty in numbers_of(duties):
            found = joined_covers(found, table[duty])
        kept = 0
        for at in self.past:
            base = table[self.carried_part(at)]
            if not self.settled[at]:
                # Whether it is worth while to make this true will turn out later.
                found = best_covers(found + joined_covers(found, with_memory(base, 1 << at)))
            elif len(base) > 0:
                kept = kept | (1 << at)
        return best_covers([self.without_idle(cover, kept) for cover in found])

    def carried_part(self, at):
        """Return the part whose truth an operator of the past carries to the next turn."""
        kind, first, _ = self.parts[at]
        return first if kind in STEPS else at

    def without_idle(self, cover, kept):
        """Return a cover with more that is kept, but only what can still matter."""
        later, claimed, marks = cover
        needed = 0
        for duty in numbers_of(later):
            needed = needed | self.recalled[duty]
        return later, (claimed | kept) & needed, marks

    def covers_of_parts(self, truths, memories):
        """Return a dict with the covers of each used or outer part."""
        table = {at: [AT_ONCE] if (truths >> at) & 1 == 1 else [] for at in self.used}
        for at in self.outer:
            kind, first, second = self.parts[at]
            carried = [AT_ONCE] if (memories >> at) & 1 == 1 else []
            table[at] = covers_of_part(kind, table.get(first, []), table.get(second, []), carried, (at, first))
        return table


def with_memory(covers, memory):
    """Return covers that keep one memory more."""
    return [(later, kept | memory, marks) for later, kept, marks in covers]


def covers_of_part(kind, left, right, carried, numbers):
    """Return the covers of a part from those of its operands.

    carried is true (it has the cover AT_ONCE) if the part is a memory;
    numbers are the numbers of the part and of its first operand.
    """
    itself = 1 << numbers[0]
    if kind == "and":
        return joined_covers(left, right)
    if kind == "or":
        return best_covers(left + right)
    if kind == "next":
        return [(1 << numbers[1], 0, 0)]
    if kind == "until":
        return best_covers(right + joined_covers(left, [(itself, 0, itself)]))
    if kind == "release":
        return joined_covers(right, best_covers(left + [(itself, 0, 0)]))
    if kind == "since":
        return best_covers(right + joined_covers(left, carried))
    if kind == "trigger":
        return joined_covers(right, best_covers(left + carried))
    return carried
