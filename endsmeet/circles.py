"""The least machine for all lists that stand for rings of a family."""

from endsmeet.outdoing import bits_of
from endsmeet.refining import least
from endsmeet.tables import Numbering, Table


def left_kind(sheet, placed):
    """The kind on the left of a placed block."""
    return sheet.ends(placed[0])[placed[1]]


def asked_kind(sheet, placed):
    """The kind that must be on the left of what follows a placed block."""
    return sheet.partner(sheet.ends(placed[0])[1 - placed[1]])


def _closing(sheet, machine):
    """The machine for those words of a machine that close."""
    met = Numbering((0, None, None))
    arrows = []
    while len(arrows) < len(met.things):
        state, left, _ = met.things[len(arrows)]
        arrows.append(met.numbered({
            sign: (other, left_kind(sheet, sign) if left is None else left, asked_kind(sheet, sign))
            for sign, other in machine.arrows[state].items()
        }))
    finals = [left is not None and left == asked and machine.finals[state] for state, left, asked in met.things]
    return least(Table(arrows, finals))


def _all_bits(masks):
    """The bits of all of some numbers."""
    found = 0
    for mask in masks:
        found |= mask
    return found


class Deeds:
    """What rows of signs do to the states of a machine: from which states they lead, and where.

    Deeds are numbered, 0 is that of the empty row. `behind` has for each deed a dict from signs to the deeds of its
    rows with the sign behind them, where they still lead somewhere. `steps` tells of which deed and sign each one
    comes.
    """

    def __init__(self, machine):
        self.machine = machine
        self.behind = []
        self.steps = {}
        met = Numbering(tuple([(state, state) for state in range(len(machine.arrows))]))
        while len(self.behind) < len(met.things):
            deed = len(self.behind)
            row = met.numbered(self.further(met.things[deed]))
            for sign, image in row.items():
                # A row to itself is no way to a deed, and the first way is short enough.
                if image > deed and image not in self.steps:
                    self.steps[image] = (deed, sign)
            self.behind.append(row)
        self.told = met.things

    def further(self, told):
        """What the rows of a deed do with each sign behind them."""
        found = {}
        for state, image in told:
            for sign, other in self.machine.arrows[image].items():
                found.setdefault(sign, []).append((state, other))
        return {sign: tuple(pairs) for sign, pairs in found.items()}

    def with_ahead(self, sign):
        """For each deed that of its rows with a sign in front of them, or None."""
        found = [self.behind[0].get(sign)]
        for deed in range(1, len(self.told)):
            shorter, last = self.steps[deed]
            image = found[shorter]
            found.append(None if image is None else self.behind[image].get(last))
        return found

    def find_closers(self):
        """For each deed the bits of those in front of which its rows make words."""
        leading = {}
        for deed, told in enumerate(self.told):
            # The start is the first state, so that it stands first where it leads on.
            if told[0][0] == 0:
                leading[told[0][1]] = leading.get(told[0][1], 0) | 1 << deed
        known = {}
        found = []
        for told in self.told:
            states = tuple([state for state, image in told if self.machine.finals[image]])
            if states not in known:
                known[states] = _all_bits([leading.get(state, 0) for state in states])
            found.append(known[states])
        return found


class Circling:
    """A machine for all lists that come of words by moving some of their front to their end.

    Let a list be begun by some row. The whole is taken if it has been cut within the row, or will be cut behind it.
    The former hangs on the row by the deeds of what can follow it, which are held as bits; the latter by the deed of
    the row alone.
    """

    def __init__(self, machine):
        self.deeds = Deeds(machine)
        self.signs = machine.all_signs()
        self.closers = self.deeds.find_closers()
        self.origins = {sign: self.origins_by(sign) for sign in self.signs}
        self.known = {sign: {} for sign in self.signs}

    def origins_by(self, sign):
        """For each deed the bits of those that become it by a sign in front of their rows."""
        found = {}
        for deed, image in enumerate(self.deeds.with_ahead(sign)):
            if image is not None:
                found[image] = found.get(image, 0) | 1 << deed
        return found

    def left_over(self, sign, mask):
        """The bits of the deeds that can follow a row and a sign, if those that can follow the row are told."""
        known = self.known[sign]
        if mask not in known:
            origins = self.origins[sign]
            left = 0
            for deed in bits_of(mask):
                left |= origins.get(deed, 0)
            known[mask] = left
        return known[mask]

    def state_behind(self, state, sign):
        """The state behind a sign: the deed of the row, or None, and the bits of the deeds that can follow it."""
        deed, mask = state
        near = None if deed is None else self.deeds.behind[deed].get(sign)
        left = self.left_over(sign, mask)
        return near, left if near is None else left | self.closers[near]

    def further(self, state):
        """A dict from signs to the states behind them, without those where nothing is left."""
        found = {sign: self.state_behind(state, sign) for sign in self.signs}
        return {sign: near for sign, near in found.items() if near != (None, 0)}

    def least_machine(self):
        """The least machine for the lists."""
        met = Numbering((0, self.closers[0]))
        arrows = []
        while len(arrows) < len(met.things):
            arrows.append(met.numbered(self.further(met.things[len(arrows)])))
        return least(Table(arrows, [mask & 1 == 1 for _, mask in met.things]))


def circled(sheet, machine):
    """The least machine for the lists that stand for the rings of a family, if that of the family is told."""
    return Circling(_closing(sheet, machine)).least_machine()
