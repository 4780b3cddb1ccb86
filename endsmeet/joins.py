"""Chains that are put together from chains of families."""

from endsmeet.circles import asked_kind, left_kind
from endsmeet.errors import BadFamilies
from endsmeet.families import Family
from endsmeet.nets import Net, least_of
from endsmeet.placing import check_chain


def _check_families(families):
    """Raise BadFamilies, if a value is not a list or tuple of one or more families of equal sheets."""
    if not isinstance(families, (list, tuple)) or len(families) == 0:
        raise BadFamilies("these are not a list or tuple of one or more families")
    if not all([isinstance(family, Family) for family in families]):
        raise BadFamilies("one of these is not a family")
    if not all([family.sheet == families[0].sheet for family in families]):
        raise BadFamilies("the sheets of the families are not equal")


def _all_of(families):
    """The family of the chains that are in any of some families."""
    whole = families[0]
    for family in families[1:]:
        whole = whole.either(family)
    return whole


class Joining:
    """Makes a net that takes what is put together from the words of a machine.

    Its states are those of the machine, together with the kind that is asked for on the left of what follows.
    """

    def __init__(self, family):
        self.sheet = family.sheet
        self.machine = family.machine
        self.drawn = Net()
        self.numbers = {}
        self.waiting = []

    def number(self, state, kind):
        """The number of a state of the net, which is added if it is new."""
        if (state, kind) not in self.numbers:
            self.numbers[(state, kind)] = self.drawn.new_state(self.machine.finals[state])
            self.waiting.append((state, kind))
        return self.numbers[(state, kind)]

    def made(self):
        """The net."""
        self.drawn.starts.append(self.number(0, None))
        while self.waiting:
            state, kind = self.waiting.pop()
            here = self.number(state, kind)
            self.draw_all(here, list(self.machine.arrows[state].items()))
            if self.drawn.finals[here]:
                first = self.machine.arrows[0]
                self.draw_all(here, [step for step in first.items() if left_kind(self.sheet, step[0]) == kind])
        return self.drawn

    def draw_all(self, here, steps):
        """Draw arrows from a state of the net."""
        for sign, other in steps:
            self.drawn.draw(here, sign, self.number(other, asked_kind(self.sheet, sign)))


def joined(families):
    """The Family of all chains put together from families."""
    _check_families(families)
    whole = _all_of(families)
    return Family(whole.sheet, least_of(Joining(whole).made()))


def _moved(machine, starts, placed):
    """For each state behind a placed block a place where a part can begin that leads to it, if those ahead of the
    placed block are told."""
    found = {}
    for state, start in starts.items():
        other = machine.arrows[state].get(placed)
        if other is not None and other not in found:
            found[other] = start
    return found


def _starts_of_parts(machine, chain):
    """For each number of blocks, such that so many in front can be put together: where the last part of them begins;
    0 has None."""
    found = {0: None}
    # For each state a place where a part can begin that leads to it.
    now = {0: 0}
    for at, placed in enumerate(chain):
        now = _moved(machine, now, placed)
        ended = [start for state, start in now.items() if machine.finals[state]]
        if ended:
            found[at + 1] = ended[0]
            now[0] = at + 1
    return found


def parted(families, chain):
    """A list of chains in families that make a chain, one behind the other, or None."""
    _check_families(families)
    whole = _all_of(families)
    check_chain(whole.sheet, chain)
    starts = _starts_of_parts(whole.machine, chain)
    if len(chain) not in starts:
        return None
    parts = []
    end = len(chain)
    while end > 0:
        parts.append(list(chain[starts[end]:end]))
        end = starts[end]
    return parts[::-1]


def gives_nothing_new(families):
    """Whether each chain put together from families is in one of them."""
    whole = joined(families)
    return whole.within(_all_of(families))
