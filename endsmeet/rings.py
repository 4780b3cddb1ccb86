"""The rings of families of chains."""

from math import gcd

from endsmeet.circles import circled
from endsmeet.errors import BadChain, BadNumber, TooLarge
from endsmeet.families import check_alike
from endsmeet.pairing import PARTING, WITHOUT, first_of
from endsmeet.placing import check_chain, fits, turned_row
from endsmeet.turning import counts_behind, own_turnings
from endsmeet.words import is_int

LONGEST_COUNTED = 60
MOST_DEEDS = 3000


class Rings:
    """A set of rings of a sheet; `machine` is the least one for all chains that stand for them."""

    def __init__(self, sheet, machine):
        self.sheet = sheet
        self.machine = machine

    def __eq__(self, other):
        return (
            isinstance(other, Rings)
            and self.sheet == other.sheet
            and self.machine.arrows == other.machine.arrows
            and self.machine.finals == other.machine.finals
        )

    def __bool__(self):
        return any(self.machine.finals)

    def table(self):
        """The least machine: the ascending lists of its arrows and of its ends."""
        return self.machine.listed()

    def has(self, chain):
        """Whether the ring for which a chain stands is one of the rings."""
        check_chain(self.sheet, chain)
        if not fits(self.sheet, chain[-1], chain[0]):
            raise BadChain("the chain does not close")
        return self.machine.takes(chain)

    def first(self):
        """The first chain that stands for one of the rings, or None."""
        return self.machine.first_row()

    def is_endless(self):
        """Whether there are endlessly many rings."""
        return self.machine.is_endless()

    def within(self, other):
        """Whether each of these rings is one of other ones."""
        check_alike(self, other)
        return first_of(self.machine, other.machine, WITHOUT) is None

    def parting(self, other):
        """The first chain that stands for a ring that is one of these or of other ones alone, or None."""
        check_alike(self, other)
        return first_of(self.machine, other.machine, PARTING)


def rings_of(family):
    """The Rings of a family."""
    return Rings(family.sheet, circled(family.sheet, family.machine))


def _all_counts(machine, many):
    """For each number of blocks up to one, a dict from states to the numbers of rows that lead to them."""
    counts = [{0: 1}]
    for _ in range(many):
        counts.append(counts_behind(machine, counts[-1]))
        # Rows lead to unlike states exactly if they do unlike things to the states: as a ring can begin anywhere,
        # what may stand around a row can as well stand behind it.
        if len(counts[-1]) > MOST_DEEDS:
            raise TooLarge("words do more than 3000 different things to the states of the least machine")
    return counts


class Turns:
    """The lists of so many blocks that stand for rings, and those that are as they were when begun elsewhere."""

    def __init__(self, rings, many):
        self.sheet = rings.sheet
        self.machine = rings.machine
        self.many = many
        self.counts = _all_counts(rings.machine, many)
        self.rows = rings.machine.rows_to()
        self.own = own_turnings(rings.sheet, rings.machine)

    def is_end(self, state):
        """Whether a state, or None, is an end."""
        return state is not None and self.machine.finals[state]

    def moved(self, step):
        """The number of lists that are the same when so many blocks of their front are moved to their end."""
        long = gcd(self.many, step)
        total = 0
        for state, number in self.counts[long].items():
            if self.is_end(self.machine.state_after(self.rows[state] * (self.many // long))):
                total += number
        return total

    def faced(self, state, middles):
        """The states behind a row to a state, one of some rows, and the turning of the first one."""
        back = turned_row(self.sheet, self.rows[state])
        found = [self.machine.state_after(middle + back, state) for middle in middles]
        return [last for last in found if last is not None]

    def turned_even(self):
        """The numbers of lists of an even number of blocks that are their own turnings, begun so that this is seen:
        with no block that is turned in its place, and with two."""
        plain, double = 0, 0
        for state, number in self.counts[self.many // 2].items():
            if any([self.is_end(last) for last in self.faced(state, [[]])]):
                plain += number
        for state, number in self.counts[self.many // 2 - 1].items():
            for last in self.faced(state, [[sign] for sign in self.own]):
                double += number * len([sign for sign in self.own if self.is_end(self.machine.arrows[last].get(sign))])
        return plain, double

    def turned_odd(self):
        """The number of lists of an odd number of blocks that are their own turnings, with one block in front that
        is turned in its place."""
        total = 0
        for state, number in self.counts[self.many // 2].items():
            for last in self.faced(state, [[sign] for sign in self.own]):
                if self.is_end(last):
                    total += number
        return total

    def number(self):
        """The number of rings: each list counts as many times as there are moves and turnings that keep it."""
        total = sum([self.moved(step) for step in range(self.many)])
        if self.many & 1 == 1:
            total += self.many * self.turned_odd()
        else:
            total += self.many // 2 * sum(self.turned_even())
        return total // (2 * self.many)


def count_rings(rings, many):
    """The number of the rings with so many blocks."""
    if not is_int(many) or not 1 <= many <= LONGEST_COUNTED:
        raise BadNumber("the number is not an integer from 1 to 60")
    return Turns(rings, many).number()
