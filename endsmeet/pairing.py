"""Two machines walked along together."""

from endsmeet.refining import least
from endsmeet.tables import Numbering, Table, trail

BOTH = 0
EITHER = 1
WITHOUT = 2
PARTING = 3


class Pairs:
    """The walks of two machines by the same signs, as far as they can lead to what is asked for.

    Asked for are rows of signs that both machines take, that either takes, that the first one takes without the
    second one, or that one of them alone takes.
    """

    def __init__(self, one, other, asked):
        self.one = one
        self.other = other
        self.asked = asked

    def is_wanted(self, pair):
        """Whether a pair of states, or None, is where a row ends that is asked for."""
        is_end = pair[0] is not None and self.one.finals[pair[0]]
        is_other_end = pair[1] is not None and self.other.finals[pair[1]]
        if self.asked == BOTH:
            return is_end and is_other_end
        if self.asked == EITHER:
            return is_end or is_other_end
        return is_end and not is_other_end or self.asked == PARTING and is_other_end and not is_end

    def is_hopeless(self, pair):
        """Whether no row that is asked for goes on from a pair, since one of the two machines has stopped."""
        if self.asked == BOTH:
            return None in pair
        return self.asked == WITHOUT and pair[0] is None

    def further(self, pair):
        """A dict from signs, ascending, to the pairs to which they lead."""
        row = {} if pair[0] is None else self.one.arrows[pair[0]]
        other_row = {} if pair[1] is None else self.other.arrows[pair[1]]
        found = {}
        for sign in sorted(set(list(row) + list(other_row))):
            near = (row.get(sign), other_row.get(sign))
            if not self.is_hopeless(near):
                found[sign] = near
        return found

    def first_row(self, start):
        """The first row of signs that is asked for from a pair of states on, or None."""
        previous = {start: None}
        waiting = [start]
        at = 0
        while at < len(waiting):
            pair = waiting[at]
            if self.is_wanted(pair):
                return trail(previous, pair)
            for sign, near in self.further(pair).items():
                if near not in previous:
                    previous[near] = (pair, sign)
                    waiting.append(near)
            at += 1
        return None

    def least_machine(self):
        """The least machine for the rows that are asked for."""
        met = Numbering((0, 0))
        arrows = []
        while len(arrows) < len(met.things):
            arrows.append(met.numbered(self.further(met.things[len(arrows)])))
        return least(Table(arrows, [self.is_wanted(pair) for pair in met.things]))


def combined(one, other, asked):
    """The least machine for the rows that are asked for of two machines."""
    return Pairs(one, other, asked).least_machine()


def first_of(one, other, asked):
    """The first row that is asked for of two machines, or None."""
    return Pairs(one, other, asked).first_row((0, 0))
