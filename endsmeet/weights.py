"""The totals of the chains of families, if each block has a weight."""

from endsmeet.errors import BadNumber, TooLarge
from endsmeet.linear import check_weights
from endsmeet.outdoing import bits_of
from endsmeet.periods import Repeats, divisors
from endsmeet.words import is_count, is_int

LATEST = 3000
GREATEST_TOTAL = 3000


class Spectrum:
    """The totals of chains: those less than the threshold, and the rests that the others leave."""

    def __init__(self, threshold, period, below, rests):
        self.threshold = threshold
        self.period = period
        self.below = list(below)
        self.rests = list(rests)

    def has(self, total):
        """Whether a number is a total."""
        if not is_count(total):
            raise BadNumber("the number is not an integer from 0")
        if total < self.threshold:
            return total in self.below
        return total % self.period in self.rests

    def is_endless(self):
        """Whether there are endlessly many totals."""
        return len(self.rests) > 0

    def last_lacking(self):
        """The greatest integer from 1 that is no total, 0 if there is none, None if there are endlessly many."""
        if len(self.rests) < self.period:
            return None
        lacking = [total for total in range(1, self.threshold) if total not in self.below]
        return lacking[-1] if lacking else 0

    def __eq__(self, other):
        return (
            isinstance(other, Spectrum)
            and self.threshold == other.threshold
            and self.period == other.period
            and self.below == other.below
            and self.rests == other.rests
        )


class Totals:
    """The states, as bits, to which words with each total lead, from 0 on."""

    def __init__(self, machine, weights):
        self.machine = machine
        self.steps = []
        for row in machine.arrows:
            told = {}
            for sign, other in row.items():
                told[weights[sign[0]]] = told.get(weights[sign[0]], 0) | 1 << other
            self.steps.append(told)
        self.greatest = max([weight for told in self.steps for weight in told], default=1)
        self.states = []
        # What the totals found so far lead to.
        self.coming = {0: 1}

    def next_total(self):
        """Find the states for the next total, and return them."""
        total = len(self.states)
        mask = self.coming.pop(total, 0)
        self.states.append(mask)
        for state in bits_of(mask):
            for weight, near in self.steps[state].items():
                self.coming[total + weight] = self.coming.get(total + weight, 0) | near
        return mask

    def ends(self):
        """For each total found whether it is that of a word."""
        finals = sum([1 << state for state, is_end in enumerate(self.machine.finals) if is_end])
        return [mask & finals != 0 for mask in self.states]


def _repeating(totals):
    """Two totals such that as many from each on as the greatest weight lead to the same states."""
    repeats = Repeats(totals.greatest)
    # A row of totals is told of when the last one of them is found.
    for _ in range(LATEST + totals.greatest):
        found = repeats.tell(totals.next_total())
        if found is not None:
            return found
    raise TooLarge("the totals up to 3000 do not repeat themselves")


def _least_period(are_totals, start, period):
    """The least period of answers that have one from a number on; they are told as far as this period goes twice."""
    whole = are_totals[start:start + period]
    for part in divisors(period):
        if whole[part:] + whole[:part] == whole:
            return part
    return period


def _first_threshold(are_totals, start, period):
    """The least number from which on answers have a period, if they have it from some number on."""
    while start > 0 and are_totals[start - 1] == are_totals[start - 1 + period]:
        start -= 1
    return start


def spectrum(family, weights):
    """The Spectrum of a family."""
    check_weights(family.sheet, weights)
    totals = Totals(family.machine, weights)
    start, later = _repeating(totals)
    are_totals = totals.ends()
    period = _least_period(are_totals, start, later - start)
    threshold = _first_threshold(are_totals, start, period)
    below = [total for total in range(threshold) if are_totals[total]]
    rests = sorted([
        total % period for total in range(threshold, threshold + period) if are_totals[total]
    ])
    return Spectrum(threshold, period, below, rests)


def chain_of_total(family, weights, total):
    """A chain of a family with a total, or None."""
    check_weights(family.sheet, weights)
    if not is_int(total) or not 0 <= total <= GREATEST_TOTAL:
        raise BadNumber("the total is not an integer from 0 to 3000")
    machine = family.machine
    totals = Totals(machine, weights)
    for _ in range(total + 1):
        totals.next_total()
    if not totals.ends()[total]:
        return None
    state = [at for at in bits_of(totals.states[total]) if machine.finals[at]][0]
    into = machine.into()
    row = []
    while total > 0:
        steps = [
            (other, sign) for other, sign in into[state]
            if weights[sign[0]] <= total and totals.states[total - weights[sign[0]]] >> other & 1
        ]
        state, last = steps[0]
        row.append(last)
        total -= weights[last[0]]
    return row[::-1]
