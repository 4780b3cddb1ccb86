"""Fragments: what chains fall apart into when some joints are cut."""

from endsmeet.circles import left_kind
from endsmeet.families import check_alike
from endsmeet.given import check_sheet
from endsmeet.linear import check_joints
from endsmeet.nets import Net, least_of
from endsmeet.pairing import PARTING, WITHOUT, first_of
from endsmeet.placing import check_chain

MARK = ("", 0)


def _word_of(chain, is_left_cut, is_right_cut):
    """The word of a fragment."""
    return ([MARK] if is_left_cut else []) + list(chain) + ([MARK] if is_right_cut else [])


def _fragment_of(word):
    """The fragment of a word, or None."""
    if word is None:
        return None
    return [sign for sign in word if sign != MARK], word[0] == MARK, word[-1] == MARK


class Fragments:
    """A set of fragments of a sheet; `machine` is the least one for their words."""

    def __init__(self, sheet, machine):
        self.sheet = sheet
        self.machine = machine

    def __eq__(self, other):
        return (
            isinstance(other, Fragments)
            and self.sheet == other.sheet
            and self.machine.arrows == other.machine.arrows
            and self.machine.finals == other.machine.finals
        )

    def __bool__(self):
        return any(self.machine.finals)

    def table(self):
        """The least machine: the ascending lists of its arrows and of its ends."""
        return self.machine.listed()

    def has(self, chain, is_left_cut, is_right_cut):
        """Whether a fragment is one of these."""
        check_chain(self.sheet, chain)
        return self.machine.takes(_word_of(chain, is_left_cut, is_right_cut))

    def first(self):
        """The first fragment, by its word, or None."""
        return _fragment_of(self.machine.first_row())

    def is_endless(self):
        """Whether there are endlessly many fragments."""
        return self.machine.is_endless()

    def within(self, other):
        """Whether each of these fragments is one of other ones."""
        check_alike(self, other)
        return first_of(self.machine, other.machine, WITHOUT) is None

    def parting(self, other):
        """The first fragment, by its word, that is one of these or of other ones alone, or None."""
        check_alike(self, other)
        return _fragment_of(first_of(self.machine, other.machine, PARTING))


def _is_cut(sheet, joints, placed):
    """Whether a placed block is cut off from what it fits on its left."""
    return sheet.joint(left_kind(sheet, placed)) in joints


def _net_of(family, joints):
    """A net that takes the words of the fragments of a family.

    It has a state for each state of the machine of the family as it is within a fragment, one for each as it is where
    a fragment begins, one ahead of the mark of a left end, and one behind that of a right end.
    """
    net = Net()
    machine = family.machine
    many = len(machine.arrows)
    for is_end in machine.finals:
        net.new_state(is_end)
    for _ in range(many):
        net.new_state(False)
    # The start of the machine can be behind a cut, too, so that the mark has a state of its own ahead of it.
    opened = net.new_state(False)
    closed = net.new_state(True)
    net.starts.extend([many, opened])
    is_entered = {other: True for row in machine.arrows for other in row.values()}
    for state, row in enumerate(machine.arrows):
        for sign, other in row.items():
            net.draw(many + state, sign, other)
        # What goes on from a state that is entered all meets the same kind.
        if state in is_entered and any([_is_cut(family.sheet, joints, sign) for sign in row]):
            net.draw(state, MARK, closed)
            net.draw(opened, MARK, many + state)
        else:
            for sign, other in row.items():
                net.draw(state, sign, other)
    return net


def fragments(family, joints):
    """The Fragments of a family when some joints are cut."""
    check_joints(family.sheet, joints)
    return Fragments(family.sheet, least_of(_net_of(family, joints)))


def cut_chain(sheet, joints, chain):
    """The list of the fragments of a chain, from left to right."""
    check_sheet(sheet)
    check_joints(sheet, joints)
    check_chain(sheet, chain)
    parts = [[chain[0]]]
    for placed in chain[1:]:
        if _is_cut(sheet, joints, placed):
            parts.append([])
        parts[-1].append(placed)
    return [(part, at > 0, at < len(parts) - 1) for at, part in enumerate(parts)]
