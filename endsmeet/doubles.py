"""Two walks along the spots of a recipe at once, which make the same chain."""

from endsmeet.outdoing import bits_of
from endsmeet.placing import turned_block


def mask_of(spots):
    """The bits of some spots."""
    return sum([1 << spot for spot in spots])


class Doubles:
    """Pairs of spots, one for each of two walks that go on step by step, with the bits of the second ones for each
    first one.

    The first walk goes from the first spots to the last ones. The second one does so, too, and both pass the same
    placed blocks; or, if it is turned, it goes from the last spots to the first ones, and passes turnings of them.
    """

    def __init__(self, walks, is_turned):
        self.walks = walks
        spots = range(len(walks.places))
        self.ahead = [mask_of(list(others)) for others in walks.after]
        self.behind = [mask_of(others) for others in walks.before()]
        self.other_ahead, self.other_behind = self.ahead, self.behind
        starts, ends = mask_of(set_of(walks.firsts)), mask_of(set_of(walks.lasts))
        self.other_starts, self.other_ends = starts, ends
        if is_turned:
            self.other_ahead, self.other_behind = self.behind, self.ahead
            self.other_starts, self.other_ends = ends, starts
        self.firsts, self.lasts = set_of(walks.firsts), set_of(walks.lasts)
        self.signs = [walks.placed[place] for place in walks.places]
        told = [turned_block(walks.sheet, sign) for sign in self.signs] if is_turned else self.signs
        bits = {}
        for spot in spots:
            bits[told[spot]] = bits.get(told[spot], 0) | 1 << spot
        # For each spot the bits of those at which the other walk can be at the same time.
        self.alike = [bits.get(sign, 0) for sign in self.signs]

    def beginnings(self):
        """The pairs with which two walks can begin."""
        return self.alike_among(self.firsts, self.other_starts)

    def endings(self):
        """The pairs with which two walks can end."""
        return self.alike_among(self.lasts, self.other_ends)

    def alike_among(self, spots, mask):
        """The pairs of some spots, and of others that are told by their bits."""
        return {spot: self.alike[spot] & mask for spot in spots if self.alike[spot] & mask}

    def moved(self, pairs, near, other_near):
        """The pairs that are next to some, by the spots that are next to each one."""
        found = {}
        for spot, mask in pairs.items():
            others = 0
            for other in bits_of(mask):
                others |= other_near[other]
            for following in bits_of(near[spot]):
                if others & self.alike[following]:
                    found[following] = found.get(following, 0) | others & self.alike[following]
        return found

    def onward(self, pairs):
        """The pairs that can come next to some."""
        return self.moved(pairs, self.ahead, self.other_ahead)

    def backward(self, pairs):
        """The pairs to which some can come next."""
        return self.moved(pairs, self.behind, self.other_behind)

    def live(self):
        """All pairs that are passed when two walks are begun and ended together."""
        behind, pairs = {}, self.beginnings()
        while pairs:
            behind = together(behind, pairs)
            pairs = without(self.onward(pairs), behind)
        ahead, pairs = {}, self.endings()
        while pairs:
            ahead = together(ahead, pairs)
            pairs = without(self.backward(pairs), ahead)
        return within(behind, ahead)


def set_of(spots):
    """The ascending list of some spots."""
    return sorted(set(spots))


def without(pairs, others):
    """The pairs that are not among other ones."""
    found = {spot: mask & ~others.get(spot, 0) for spot, mask in pairs.items()}
    return {spot: mask for spot, mask in found.items() if mask}


def within(pairs, others):
    """The pairs that are among other ones, too."""
    found = {spot: mask & others.get(spot, 0) for spot, mask in pairs.items()}
    return {spot: mask for spot, mask in found.items() if mask}


def together(pairs, others):
    """The pairs of two kinds."""
    found = dict(pairs)
    for spot, mask in others.items():
        found[spot] = found.get(spot, 0) | mask
    return found


def first_pair(pairs):
    """The least one of some pairs."""
    spot = min(list(pairs))
    return spot, bits_of(pairs[spot])[0]


def only(pair):
    """A single pair."""
    return {pair[0]: 1 << pair[1]}
