"""Amounts of the chains of families."""

from heapq import heappop, heappush

from endsmeet.errors import TooLarge
from endsmeet.given import check_amounts
from endsmeet.linear import linear_names
from endsmeet.tables import trail

MOST_AMOUNTS = 200
MOST_PLACES = 20000


def _is_within(amounts, others):
    """Whether amounts have at most as much of each block as others."""
    return all([one <= other for one, other in zip(amounts, others)])


def _fewest_on(machine, costs):
    """For each state the least cost of a row that leads from it to an end; `costs` has that of each name."""
    into = machine.into()
    found = {}
    queue = [(0, state) for state, is_end in enumerate(machine.finals) if is_end]
    while queue:
        cost, state = heappop(queue)
        if state not in found:
            found[state] = cost
            for other, sign in into[state]:
                heappush(queue, (cost + costs[sign[0]], other))
    return found


class Least:
    """The search for the least amounts, as tuples, of the rows that a machine takes.

    Amounts of rows that lead to a state come by the numbers of blocks that whole rows must have with them, lesser
    ones first, so that whole amounts that are found first are least ones.
    """

    def __init__(self, machine, names):
        self.machine = machine
        self.places = {name: at for at, name in enumerate(names)}
        self.blocks = _fewest_on(machine, {name: 1 for name in names})
        self.lacking = [_fewest_on(machine, {other: 1 if other == name else 0 for other in names}) for name in names]
        self.found = []
        # For each state the amounts of rows to it that were gone on from.
        self.passed = [[] for _ in machine.arrows]
        self.queue = []

    def push(self, amounts, state):
        """Let amounts of a row that leads to a state come."""
        heappush(self.queue, (sum(amounts) + self.blocks[state], amounts, state))

    def is_needless(self, amounts, state):
        """Whether all that goes on from amounts at a state has at least as much as what is known."""
        whole = [amount + told[state] for amount, told in zip(amounts, self.lacking)]
        if any([_is_within(other, whole) for other in self.found]):
            return True
        return any([_is_within(other, amounts) for other in self.passed[state]])

    def search(self):
        """Find all least amounts, or one more than can be told."""
        if self.blocks:
            self.push(tuple([0 for _ in self.places]), 0)
        while self.queue and len(self.found) <= MOST_AMOUNTS:
            _, amounts, state = heappop(self.queue)
            if self.is_needless(amounts, state):
                continue
            self.passed[state].append(amounts)
            if self.machine.finals[state]:
                self.found.append(amounts)
            for sign, other in self.machine.arrows[state].items():
                at = self.places[sign[0]]
                self.push(amounts[:at] + (amounts[at] + 1,) + amounts[at + 1:], other)


def least_amounts(family):
    """The list of the least amounts of the chains of a family."""
    names = linear_names(family.sheet)
    least = Least(family.machine, names)
    least.search()
    if len(least.found) > MOST_AMOUNTS:
        raise TooLarge("there are more than 200 least amounts")
    return [dict(zip(names, amounts)) for amounts in sorted(least.found)]


def _row_of_amounts(machine, names, whole):
    """A row with just some amounts, a tuple, that a machine takes, or None."""
    places = {name: at for at, name in enumerate(names)}
    start = (0, whole)
    previous = {start: None}
    waiting = [start]
    at = 0
    while at < len(waiting):
        here = waiting[at]
        state, left = here
        if machine.finals[state] and not any(left):
            return trail(previous, here)
        for sign, other in machine.arrows[state].items():
            place = places[sign[0]]
            near = (other, left[:place] + (left[place] - 1,) + left[place + 1:])
            if left[place] > 0 and near not in previous:
                previous[near] = (here, sign)
                waiting.append(near)
        at += 1
    return None


def chain_of_amounts(family, amounts):
    """A chain of a family with just some amounts, or None."""
    check_amounts(family.sheet, amounts)
    names = linear_names(family.sheet)
    if any([many > 0 for name, many in amounts.items() if name not in names]):
        return None
    whole = tuple([amounts.get(name, 0) for name in names])
    places = len(family.machine.arrows)
    for many in whole:
        places *= many + 1
    if places > MOST_PLACES:
        raise TooLarge("there are too many amounts of parts of such a chain")
    return _row_of_amounts(family.machine, names, whole)
