"""Placed blocks, and the chains and rings that are made of them."""

from endsmeet.errors import BadChain
from endsmeet.given import check_sheet
from endsmeet.words import is_int


def is_linear(sheet, name):
    """Whether a value is the name of a block of a sheet with two ends."""
    return name in sheet and len(sheet.ends(name)) == 2


def has_two_ways(sheet, name):
    """Whether a linear block can be placed in two ways: its ends are of unlike kinds."""
    left, right = sheet.ends(name)
    return left != right


def is_placed(sheet, thing):
    """Whether a value is a placed block of a sheet."""
    if not isinstance(thing, tuple) or len(thing) != 2:
        return False
    name, way = thing
    if not is_linear(sheet, name) or not is_int(way):
        return False
    return way == 0 or way == 1 and has_two_ways(sheet, name)


def turned_block(sheet, placed):
    """The turning of a placed block."""
    name, way = placed
    return (name, 1 - way) if has_two_ways(sheet, name) else placed


def fits(sheet, one, other):
    """Whether a placed block fits another one on its right."""
    right, left = sheet.ends(one[0])[1 - one[1]], sheet.ends(other[0])[other[1]]
    return sheet.partner(right) == left


def is_chain(sheet, thing):
    """Whether a value is a chain of a sheet."""
    if not isinstance(thing, (list, tuple)) or not thing:
        return False
    if not all([is_placed(sheet, placed) for placed in thing]):
        return False
    return all([fits(sheet, thing[at], thing[at + 1]) for at in range(len(thing) - 1)])


def check_chain(sheet, chain):
    """Raise BadSheet or BadChain for what is no sheet, or no chain of it."""
    check_sheet(sheet)
    if not is_chain(sheet, chain):
        raise BadChain("this is not a chain of the sheet")


def turned_row(sheet, row):
    """Placed blocks in the opposite order, each of them turned."""
    return [turned_block(sheet, placed) for placed in row[::-1]]


def turned(sheet, chain):
    """The turning of a chain."""
    check_chain(sheet, chain)
    return turned_row(sheet, chain)


def closes(sheet, chain):
    """Whether the last placed block of a chain fits the first one on its right."""
    check_chain(sheet, chain)
    return fits(sheet, chain[-1], chain[0])


def chain_form(sheet, chain):
    """The first one of a chain and its turning."""
    check_chain(sheet, chain)
    return min(list(chain), turned_row(sheet, chain))


def _least_rotation(row):
    """The first one of the lists that come of a row by moving some of its front to its end."""
    many = len(row)
    double = row + row
    one, other, same = 0, 1, 0
    while one < many and other < many and same < many:
        left, right = double[one + same], double[other + same]
        if left == right:
            same += 1
            continue
        # No list that begins within the part that was the same is the first one.
        if left > right:
            one += same + 1
        else:
            other += same + 1
        if one == other:
            other += 1
        same = 0
    start = min(one, other)
    return double[start:start + many]


def ring_form(sheet, chain):
    """The first chain that stands for the ring of a chain."""
    check_chain(sheet, chain)
    if not fits(sheet, chain[-1], chain[0]):
        raise BadChain("the chain does not close")
    return min(_least_rotation(list(chain)), _least_rotation(turned_row(sheet, chain)))


def write_chain(sheet, chain):
    """The text of a chain."""
    check_chain(sheet, chain)
    return " ".join([f"~{name}" if way == 1 else name for name, way in chain])
