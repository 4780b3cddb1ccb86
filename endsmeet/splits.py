"""The parts of amounts that have whole piecings, and how many of these are in one piece."""

from math import comb, factorial, lcm

from endsmeet.balance import ends_by_kind
from endsmeet.vectors import even_vectors, is_below, taken


def number_of_ways(sheet, amounts):
    """The number of whole piecings of amounts that have one."""
    total, halves = _pairings(sheet, amounts)
    return total >> halves


def _pairings(sheet, amounts):
    """The number of whole piecings, with each link between ends of one kind told either way, and of such links."""
    many = ends_by_kind(sheet, amounts)
    total, halves = 1, 0
    for joint in sheet.joints():
        if sheet.partner(joint) == joint:
            half = many[joint] // 2
            total *= factorial(2 * half) // factorial(half)
            halves += half
        else:
            total *= factorial(many[joint])
    return total, halves


def _is_plain(sheet, name):
    """Whether the number of whole piecings is sure to be a multiple of the orders of the copies of a block.

    The orders of all such blocks together divide what `_pairings` tells, since at each joint of two kinds the
    ends of the lesser one can be told apart by blocks, and at the others half of the ends.
    """
    for kind in sheet.ends(name):
        if sheet.partner(kind) > kind or sheet.partner(kind) == kind and sheet.ends(name).count(kind) > 1:
            return True
    return False


class Splits:
    """The parts of amounts that have whole piecings, and shares of these parts.

    The share of a part is the number of its whole piecings, each link between ends of one kind told either way,
    divided by the numbers of orders of the copies of plain blocks: so all numbers stay small. Among parts that
    have a certain copy of their first block, those in one piece are counted: their share, times the number of the
    copies of this block, if it is plain, is kept.
    """

    def __init__(self, sheet, amounts):
        self.used, self.vectors = even_vectors(sheet, amounts)
        self.whole = self.vectors[-1]
        plain = [at for at, name in enumerate(self.used) if _is_plain(sheet, name)]
        self.others = [at for at in range(len(self.used)) if at not in plain]
        self.order = plain + self.others
        self.halves = 0
        self.shares = {}
        for vector in self.vectors:
            total, self.halves = _pairings(sheet, dict(zip(self.used, vector)))
            self.shares[vector] = total // self.orders(vector)
        self.firsts = {vector: self.first_of(vector) for vector in self.vectors[1:]}
        self.marked = {}
        for vector in self.vectors[1:]:
            self.marked[vector] = self.marked_share(vector)

    def orders(self, vector):
        """The number of orders of the copies of plain blocks."""
        total = 1
        for at, many in enumerate(vector):
            if at not in self.others:
                total *= factorial(many)
        return total

    def first_of(self, vector):
        """The first block of which there is a copy, plain ones before others."""
        return [at for at in self.order if vector[at] > 0][0]

    def times(self, vector):
        """How often the share of whole piecings in one piece is kept."""
        first = self.firsts[vector]
        return 1 if first in self.others else vector[first]

    def marked_share(self, vector):
        """The share of the whole piecings in one piece, as it is kept: that of all without those in more."""
        first = self.firsts[vector]
        less = {at: vector[at] - (1 if at == first else 0) for at in self.others}
        total = self.times(vector) * self.shares[vector]
        for part, share in self.marked.items():
            if part[first] > 0 and is_below(part, vector):
                chosen = share * self.shares[taken(vector, part)]
                for at in self.others:
                    chosen *= comb(less[at], part[at] - (1 if at == first else 0))
                total -= chosen
        return total

    def ways_in_one(self):
        """The number of the whole piecings in one piece."""
        return (self.marked[self.whole] * self.orders(self.whole) // self.times(self.whole)) >> self.halves

    def chance_of_one(self):
        """The chance of one piece, as a fraction."""
        return self.marked[self.whole], self.times(self.whole) * self.shares[self.whole]

    def expected_pieces(self):
        """The expected number of pieces, as a fraction."""
        common = 1
        for vector in self.marked:
            common = lcm(common, self.times(vector))
        total = 0
        for part, share in self.marked.items():
            chosen = share * self.shares[taken(self.whole, part)] * (common // self.times(part))
            for at in self.others:
                chosen *= comb(self.whole[at], part[at])
            total += chosen
        return total, common * self.shares[self.whole]
