"""Systems with as few states as can be."""

from reactivesynth.arena import Arena
from reactivesynth.machines import Machine
from reactivesynth.minimization import minimize
from reactivesynth.synthesis import spec_parity
from reactivesynth.trials import Places, Trial


class Search:
    """The search for a machine with at most count states that wins from a place on."""

    def __init__(self, places, start, count):
        self.places = places
        self.start = start
        self.count = count

    def completed(self, entries):
        """Return entries that win, these among them, or None if there are none; then blame some of these.

        No machine in which the blamed entries are the same wins.
        """
        trial = Trial(self.places, self.start, entries)
        blamed = trial.blamed()
        if blamed is not None:
            return None, blamed
        if trial.missing is None:
            return entries, []
        reasons = []
        for value in self.values_for(entries):
            more = {entry: entries[entry] for entry in entries}
            more[trial.missing] = value
            found, blamed = self.completed(more)
            # If the missing entry is not to blame, no other value of it is better.
            if found is not None or trial.missing not in blamed:
                return found, blamed
            reasons.extend([entry for entry in blamed if entry != trial.missing])
        return None, sorted(set(reasons))

    def values_for(self, entries):
        """Return the values that one more entry may have."""
        # All states that are not used yet are alike, so one of them is enough.
        targets = min(used_states(entries) + 1, self.count)
        return [(target, said) for target in range(targets) for said in range(len(self.places.letters))]


def used_states(entries):
    """Return the number of states that entries use."""
    return max([target for target, _ in entries.values()], default=0) + 1


def smallest_system(spec, limit):
    """Return a system for the specification with the fewest states, or None if it has more states than limit."""
    arena = Arena(spec_parity(spec), 1 << len(spec.inputs), spec.lead)
    places = Places(arena)
    for count in range(1, limit + 1):
        for start, opening in enumerate(places.openings):
            found, _ = Search(places, start, count).completed({})
            if found is not None:
                rows = machine_rows(found, places)
                return minimize(Machine(arena.inputs, arena.outputs, arena.lead, opening, rows))
    return None


def machine_rows(entries, places):
    """Return the rows of the machine with these entries; those that no play needs may have any value."""
    rows = []
    for state in range(used_states(entries)):
        row = []
        for heard in range(places.inputs):
            target, said = entries.get((state, heard), (0, 0))
            row.append((target, places.letters[said]))
        rows.append(row)
    return rows
