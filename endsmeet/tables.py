"""Machines with at most one arrow for each sign from each state."""


class Numbering:
    """Numbers things from 0, in the order in which they are first met."""

    def __init__(self, first):
        self.things = [first]
        self.numbers = {first: 0}

    def number(self, thing):
        """The number of a thing, perhaps a new one."""
        if thing not in self.numbers:
            self.numbers[thing] = len(self.things)
            self.things.append(thing)
        return self.numbers[thing]

    def numbered(self, steps):
        """A dict from signs to things, with their numbers instead."""
        return {sign: self.number(thing) for sign, thing in steps.items()}


class Table:
    """A machine whose states are numbered from 0, the start.

    `arrows` has for each state a dict from signs to states, `finals` whether each state is an end.
    """

    def __init__(self, arrows, finals):
        self.arrows = arrows
        self.finals = finals

    def state_after(self, row, start=0):
        """The state to which a row of signs leads, or None."""
        state = start
        for sign in row:
            state = self.arrows[state].get(sign)
            if state is None:
                return None
        return state

    def takes(self, row):
        """Whether a row of signs leads from the start to an end."""
        state = self.state_after(row)
        return state is not None and self.finals[state]

    def listed(self):
        """The ascending lists of the arrows and of the ends."""
        arrows = [
            (state, sign, row[sign]) for state, row in enumerate(self.arrows) for sign in sorted(row)
        ]
        return arrows, [state for state, is_end in enumerate(self.finals) if is_end]

    def walked_from(self, start):
        """All states that are reached from one, in the order of the first rows to them, each with the state before
        it and the sign between them; the first one has None."""
        previous = {start: None}
        waiting = [start]
        at = 0
        while at < len(waiting):
            state = waiting[at]
            for sign in sorted(self.arrows[state]):
                other = self.arrows[state][sign]
                if other not in previous:
                    previous[other] = (state, sign)
                    waiting.append(other)
            at += 1
        return previous

    def rows_to(self):
        """For each state the first row of signs that leads to it."""
        found = {}
        for state, step in self.walked_from(0).items():
            found[state] = [] if step is None else found[step[0]] + [step[1]]
        return [found[state] for state in range(len(self.arrows))]

    def row_to(self, wanted):
        """The first row of signs that leads to a state."""
        return trail(self.walked_from(0), wanted)

    def row_on(self, start):
        """The first row of signs that leads from a state to an end; there must be one."""
        previous = self.walked_from(start)
        return trail(previous, [state for state in previous if self.finals[state]][0])

    def first_row(self):
        """The first row of signs that leads to an end, or None."""
        return self.row_on(0) if any(self.finals) else None

    def is_endless(self):
        """Whether arrows make a circle."""
        many = [0 for _ in self.arrows]
        for row in self.arrows:
            for other in row.values():
                many[other] += 1
        free = [state for state, number in enumerate(many) if number == 0]
        gone = 0
        while free:
            gone += 1
            state = free.pop()
            for other in self.arrows[state].values():
                many[other] -= 1
                if many[other] == 0:
                    free.append(other)
        return gone < len(many)

    def into(self):
        """For each state the list of the arrows that lead to it, as pairs of a state and a sign."""
        found = [[] for _ in self.arrows]
        for state, row in enumerate(self.arrows):
            for sign, other in row.items():
                found[other].append((state, sign))
        return found

    def all_signs(self):
        """The ascending list of the signs on arrows."""
        return sorted(set([sign for row in self.arrows for sign in row]))


def trail(previous, last):
    """The signs that lead to a state, where each state has the one before it, with a sign, or None."""
    found = []
    step = previous[last]
    while step is not None:
        state, sign = step
        found.append(sign)
        step = previous[state]
    return found[::-1]
