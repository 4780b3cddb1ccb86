"""Families of chains, alike for all lengths."""

from endsmeet.errors import BadNumber, BadSheet, TooLarge
from endsmeet.misfits import fitting_walks
from endsmeet.nets import Net, least_of
from endsmeet.pairing import BOTH, EITHER, PARTING, WITHOUT, combined, first_of
from endsmeet.placing import check_chain, turned_block, turned_row
from endsmeet.turning import number_of_chains
from endsmeet.words import is_int

LONGEST_LISTED = 60
MOST_LISTED = 500


class Family:
    """A set of chains of a sheet; `machine` is the least one for the chains and their turnings."""

    def __init__(self, sheet, machine):
        self.sheet = sheet
        self.machine = machine

    def __eq__(self, other):
        return (
            isinstance(other, Family)
            and self.sheet == other.sheet
            and self.machine.arrows == other.machine.arrows
            and self.machine.finals == other.machine.finals
        )

    def __bool__(self):
        return any(self.machine.finals)

    def table(self):
        """The least machine: the ascending lists of its arrows and of its ends."""
        return self.machine.listed()

    def has(self, chain):
        """Whether a chain is in the family."""
        check_chain(self.sheet, chain)
        return self.machine.takes(chain)

    def first(self):
        """The first chain in the family, or None."""
        return self.machine.first_row()

    def is_endless(self):
        """Whether the family has endlessly many chains."""
        return self.machine.is_endless()

    def chains(self, many):
        """The ascending list of the forms of the chains with so many blocks."""
        if not is_int(many) or not 0 <= many <= LONGEST_LISTED:
            raise BadNumber("the number is not an integer from 0 to 60")
        if number_of_chains(self.sheet, self.machine, many) > MOST_LISTED:
            raise TooLarge("there are more than 500 chains")
        return [row for row in _rows_of(self.machine, many) if row <= turned_row(self.sheet, row)]

    def both(self, other):
        """The family of the chains that are in this one and in another one."""
        check_alike(self, other)
        return Family(self.sheet, combined(self.machine, other.machine, BOTH))

    def either(self, other):
        """The family of the chains that are in this one or in another one."""
        check_alike(self, other)
        return Family(self.sheet, combined(self.machine, other.machine, EITHER))

    def without(self, other):
        """The family of the chains that are in this one and not in another one."""
        check_alike(self, other)
        return Family(self.sheet, combined(self.machine, other.machine, WITHOUT))

    def within(self, other):
        """Whether each chain of this family is in another one."""
        check_alike(self, other)
        return first_of(self.machine, other.machine, WITHOUT) is None

    def parting(self, other):
        """The first chain that is in this family or in another one alone, or None."""
        check_alike(self, other)
        return first_of(self.machine, other.machine, PARTING)


def check_alike(one, other):
    """Raise BadSheet, if two families, or sets of rings or of fragments, are not of equal sheets."""
    if one.sheet != other.sheet:
        raise BadSheet("the other one has another sheet")


def _can_end(machine, many):
    """For each number of signs up to some number, whether from each state an end can be reached with so many."""
    found = [machine.finals]
    for _ in range(many):
        last = found[-1]
        found.append([any([last[other] for other in row.values()]) for row in machine.arrows])
    return found


def _rows_of(machine, many):
    """The ascending list of the rows of so many signs that a machine takes."""
    can_end = _can_end(machine, many)
    rows = [([], 0)] if can_end[many][0] else []
    for left in range(many - 1, -1, -1):
        rows = [
            (row + [sign], machine.arrows[state][sign]) for row, state in rows
            for sign in sorted(machine.arrows[state]) if can_end[left][machine.arrows[state][sign]]
        ]
    return [row for row, _ in rows]


def _net_of(sheet, walks):
    """A net that takes the words of a recipe and their turnings."""
    net = Net()
    many = len(walks.places)
    start = net.new_state(False)
    # Behind the start there is a state for each spot, and then one for each spot as it is passed in turned words.
    for is_end in [spot in walks.lasts for spot in range(many)] + [spot in walks.firsts for spot in range(many)]:
        net.new_state(is_end)
    net.starts.append(start)
    signs = [walks.placed[place] for place in walks.places]
    backs = [turned_block(sheet, sign) for sign in signs]
    for spot in walks.firsts:
        net.draw(start, signs[spot], 1 + spot)
    for spot in walks.lasts:
        net.draw(start, backs[spot], 1 + many + spot)
    for spot, others in enumerate(walks.after):
        for other in others:
            net.draw(1 + spot, signs[other], 1 + other)
            net.draw(1 + many + other, backs[spot], 1 + many + spot)
    return net


def family(sheet, recipe):
    """The Family of a recipe."""
    walks = fitting_walks(sheet, recipe)
    return Family(sheet, least_of(_net_of(sheet, walks)))
