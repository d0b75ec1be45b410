"""Slow ways to tell what the program tells, as near to the words of the document as can be."""

import itertools


class Evaluator:
    """The truth of formulas at the turns of a word, by the definitions of point 10."""

    def __init__(self, names, lasso):
        self.names = list(names)
        self.head, self.loop = lasso
        self.known = {}

    def letter(self, turn):
        if turn < len(self.head):
            return self.head[turn]
        return self.loop[(turn - len(self.head)) % len(self.loop)]

    def truth(self, formula, turn):
        # From some turn on the truth of every part comes again with the loop.
        settled = len(self.head) + 12 * len(self.loop)
        if turn > settled:
            turn = settled + (turn - settled) % len(self.loop)
        key = (formula, turn)
        if key not in self.known:
            self.known[key] = self.decide(formula, turn, settled + 2 * len(self.loop))
        return self.known[key]

    def decide(self, formula, n, far):
        kind = formula[0]
        if kind in ("true", "false"):
            return kind == "true"
        if kind == "signal":
            return self.letter(n) >> self.names.index(formula[1]) & 1 == 1

        def f(turn):
            return self.truth(formula[1], turn)

        def g(turn):
            return self.truth(formula[2], turn)

        later = range(n, max(n, far) + len(self.loop) + 1)
        earlier = range(n + 1)
        decisions = {
            "not": lambda: not f(n),
            "and": lambda: f(n) and g(n),
            "or": lambda: f(n) or g(n),
            "implies": lambda: not f(n) or g(n),
            "iff": lambda: f(n) == g(n),
            "next": lambda: f(n + 1),
            "until": lambda: any(g(m) and all(f(k) for k in range(n, m)) for m in later),
            "eventually": lambda: any(f(m) for m in later),
            "always": lambda: all(f(m) for m in later),
            "weak_until": lambda: any(g(m) and all(f(k) for k in range(n, m)) for m in later)
            or all(f(m) for m in later),
            "release": lambda: all(g(m) or any(f(k) for k in range(n, m)) for m in later),
            "previous": lambda: n >= 1 and f(n - 1),
            "weak_previous": lambda: n == 0 or f(n - 1),
            "since": lambda: any(g(m) and all(f(k) for k in range(m + 1, n + 1)) for m in earlier),
            "once": lambda: any(f(m) for m in earlier),
            "historically": lambda: all(f(m) for m in earlier),
            "trigger": lambda: all(g(m) or any(f(k) for k in range(m + 1, n + 1)) for m in earlier),
        }
        return decisions[kind]()


def truth_at(formula, names, lasso, turn):
    """Return the truth of a formula at a turn."""
    return Evaluator(names, lasso).truth(formula, turn)


def buchi_accepts(automaton, lasso):
    """Return True if a Buchi automaton accepts the word of the lasso.

    It composes the relation of one way round the loop with itself until
    nothing new is found.
    """
    head, loop = lasso
    count = len(automaton.rows)
    reached = set(automaton.initial)
    for letter in head:
        reached = {target for state in reached for target in automaton.rows[state][letter]}
    # A triple says that a way round leads from a state to another one, and
    # whether it can go through an accepting state, the last one included.
    once = set()
    for state in range(count):
        current = {(state, False)}
        for letter in loop:
            current = {(target, seen or target in automaton.accepting)
                       for place, seen in current for target in automaton.rows[place][letter]}
        once |= {(state, target, seen) for target, seen in current}
    ways = set(once)
    while True:
        more = {(start, end, seen or too) for start, middle, seen in ways
                for begin, end, too in once if begin == middle}
        if more <= ways:
            break
        ways |= more
    reached |= {end for start, end, _ in ways if start in reached}
    return any((state, state, True) in ways for state in reached)


def parity_accepts(parity, lasso):
    """Return True if a parity automaton accepts the word of the lasso."""
    head, loop = lasso
    state = parity.start
    for letter in head:
        state = parity.rows[state][letter]
    for _ in parity.rows:
        for letter in loop:
            state = parity.rows[state][letter]
    seen = []
    for _ in parity.rows:
        for letter in loop:
            seen.append(parity.priorities[state])
            state = parity.rows[state][letter]
    # After as many rounds as there are states the run is in its cycle, and in
    # as many rounds more it goes through all of it.
    return max(seen) % 2 == 0


def reached_states(rows, start):
    """Return the states of a deterministic automaton that can be reached."""
    found = {start}
    waiting = [start]
    while waiting:
        for target in rows[waiting.pop()]:
            if target not in found:
                found.add(target)
                waiting.append(target)
    return found


def slow_distances(game, player, targets):
    """Return the distances of point 25, found for one number of moves after the other."""
    known = {target: 0 for target in targets}
    for moves in range(1, len(game.moves) + 1):
        before = set(known)
        for position, row in enumerate(game.moves):
            forced = any if game.owners[position] == player else all
            if position not in known and forced(target in before for target in row):
                known[position] = moves
    return [known.get(position, -1) for position in range(len(game.moves))]


def play_winner(game, moves, position):
    """Return the winner of the play from a position in which each position has one move.

    A position without one (-1) ends the play: then its owner loses.
    """
    seen = []
    while position not in seen:
        if moves[position] < 0:
            return 1 - game.owners[position]
        seen.append(position)
        position = moves[position]
    return max(game.priorities[place] for place in seen[seen.index(position):]) % 2


def all_choices(game, player):
    """Return all ways for a player to choose one move at each own position, -1 at the others."""
    return list(itertools.product(*[moves if owner == player else (-1,)
                                    for owner, moves in zip(game.owners, game.moves)]))


def joined(game, player, choices, others):
    """Return the choices of a player together with those of the other player."""
    return [mine if owner == player else other for owner, mine, other in zip(game.owners, choices, others)]


def slow_choices_win(game, player, choices, position):
    """Return True if choices win from a position, after trying all that the other player can always do."""
    return all(play_winner(game, joined(game, player, choices, others), position) == player
               for others in all_choices(game, 1 - player))


def slow_winners(game):
    """Return the winner of each position, after trying all choices of player 0."""
    tries = [[slow_choices_win(game, 0, choices, position) for position in range(len(game.moves))]
             for choices in all_choices(game, 0)]
    return [0 if any(row[position] for row in tries) else 1 for position in range(len(game.moves))]


def slow_said(machine, heard):
    """Return the letters that a machine has said, by the definition of o(n) in point 28."""
    emitted = []
    state = 0
    for letter in heard:
        state, said = machine.rows[state][letter]
        emitted.append(said)
    turns = range(max(0, len(heard) - machine.lead))
    return [emitted[turn + machine.lead] if turn + machine.lead >= 0 else machine.opening[turn] for turn in turns]


def slow_play(machine, opponent, turns):
    """Return the first letters of a play: each in turn hears all that the other has said so far."""
    heard, said = [], []
    while min(len(heard), len(said)) < turns:
        before = len(heard) + len(said)
        said = slow_said(machine, heard)
        heard = slow_said(opponent, said)
        assert len(heard) + len(said) > before
    return [i + machine.inputs * o for i, o in zip(heard, said)][:turns]


def slow_minimized(machine):
    """Return the rows of the minimized machine, after comparing all pairs of states again and again."""
    states = range(len(machine.rows))
    unlike = {(one, two) for one in states for two in states
              if [said for _, said in machine.rows[one]] != [said for _, said in machine.rows[two]]}
    for _ in states:
        unlike |= {(one, two) for one in states for two in states
                   for (left, _), (right, _) in zip(machine.rows[one], machine.rows[two]) if (left, right) in unlike}
    first = {state: min(other for other in states if (state, other) not in unlike) for state in states}
    order = [first[0]]
    for state in order:
        for target, _ in machine.rows[state]:
            if first[target] not in order:
                order.append(first[target])
    return tuple(tuple((order.index(first[target]), said) for target, said in machine.rows[state]) for state in order)


def slow_separating_word(first, second):
    """Return what separating_word returns, after trying all words of every length that can be needed."""
    if first.opening != second.opening:
        return []
    for length in range(1, len(first.rows) + len(second.rows) + 1):
        for word in itertools.product(range(first.inputs), repeat=length):
            if last_emitted(first, word) != last_emitted(second, word):
                return list(word)
    return None


def last_emitted(machine, word):
    """Return the letter that a machine emits when it hears the last letter of a word."""
    state = 0
    said = None
    for letter in word:
        state, said = machine.rows[state][letter]
    return said


def slow_matches(expression, word):
    """Return True if a word is one of an expression, after trying all ways to cut it in two."""
    kind = expression[0]
    if kind in ("none", "empty", "letter"):
        return kind != "none" and tuple(word) == (expression[1:] if kind == "letter" else ())
    if kind == "either":
        return slow_matches(expression[1], word) or slow_matches(expression[2], word)
    cuts = range(len(word) + 1)
    if kind == "join":
        return any(slow_matches(expression[1], word[:cut]) and slow_matches(expression[2], word[cut:]) for cut in cuts)
    return len(word) == 0 or any(slow_matches(expression[1], word[:cut]) and slow_matches(expression, word[cut:])
                                 for cut in cuts if cut > 0)


def slow_contains(pairs, lasso, longest):
    """Return True if the word of a lasso is one of an endless expression all of whose pieces have at most this length.

    A place is how far a piece begins in the lasso; after the last place of
    the loop comes its first one again.
    """
    head, loop = lasso
    places = range(len(head) + len(loop))
    letters = list(head) + list(loop) * (longest // len(loop) + 2)

    def place_after(place):
        return place if place < len(places) else len(head) + (place - len(head)) % len(loop)

    for first, second in pairs:
        steps = {place: {place_after(place + length) for length in range(1, longest + 1)
                         if slow_matches(second, letters[place:place + length])} for place in places}
        # Places from which no step leads are taken away until only those are left that go on without end.
        while any(not steps[place] for place in steps):
            steps = {place: {target for target in steps[place] if target in steps and steps[target]}
                     for place in steps if steps[place]}
        if any(slow_matches(first, letters[:length]) and place_after(length) in steps for length in range(longest + 1)):
            return True
    return False
