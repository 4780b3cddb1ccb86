"""Chances and expected numbers, if all whole piecings are equally likely."""

from math import factorial, gcd, perm

from endsmeet.balance import ends_by_kind, is_balanced
from endsmeet.errors import NotBalanced, NotClosed, TooLarge
from endsmeet.given import check_sheet, check_some_amounts
from endsmeet.pieces import amounts_of, check_piece, free_ends
from endsmeet.sameness import turns
from endsmeet.splits import Splits, number_of_ways
from endsmeet.vectors import box_size

MOST_VECTORS = 1000


def _check_some(sheet, amounts):
    """Raise BadSheet or BadAmounts for what is no sheet, or no amounts with a copy."""
    check_sheet(sheet)
    check_some_amounts(sheet, amounts)


def _check_balanced(sheet, amounts):
    """Raise NotBalanced, if amounts have no whole piecing."""
    if not is_balanced(sheet, amounts):
        raise NotBalanced("these amounts have no whole piecing")


def _check_size(amounts):
    """Raise TooLarge, if parts of amounts are too many to be gone through."""
    if box_size(amounts) > MOST_VECTORS:
        raise TooLarge("the product of the amounts is more than 1000")


def _reduced(above, below):
    """A fraction in lowest terms."""
    common = gcd(above, below)
    return above // common, below // common


def ways(sheet, amounts):
    """The number of whole piecings of amounts."""
    _check_some(sheet, amounts)
    return number_of_ways(sheet, amounts) if is_balanced(sheet, amounts) else 0


def ways_in_one(sheet, amounts):
    """The number of whole piecings of amounts in one piece."""
    _check_some(sheet, amounts)
    _check_size(amounts)
    return Splits(sheet, amounts).ways_in_one() if is_balanced(sheet, amounts) else 0


def chance_of_one(sheet, amounts):
    """The chance that a whole piecing of amounts is in one piece."""
    _check_some(sheet, amounts)
    _check_balanced(sheet, amounts)
    _check_size(amounts)
    above, below = Splits(sheet, amounts).chance_of_one()
    return _reduced(above, below)


def expected_pieces(sheet, amounts):
    """The expected number of pieces of a whole piecing of amounts."""
    _check_some(sheet, amounts)
    _check_balanced(sheet, amounts)
    _check_size(amounts)
    above, below = Splits(sheet, amounts).expected_pieces()
    return _reduced(above, below)


def _number_of_renamings(sheet, used):
    """In how many ways the ends of one kind of each copy of amounts can be told anew."""
    total = 1
    for name, many in used.items():
        ends = sheet.ends(name)
        own = 1
        for kind in sorted(set(ends)):
            own *= factorial(ends.count(kind))
        for _ in range(many):
            total *= own
    return total


def _number_of_links(sheet, amounts, used):
    """In how many ways as many links can be made one behind the other as a part of amounts has.

    It is the number of whole piecings of amounts, divided by that of the rest.
    """
    many, less = ends_by_kind(sheet, amounts), ends_by_kind(sheet, used)
    total = 1
    for joint in sheet.joints():
        if sheet.partner(joint) != joint:
            total *= perm(many[joint], less[joint])
        else:
            for at in range(less[joint] // 2):
                total *= many[joint] - 1 - 2 * at
    return total


def expected_of(sheet, amounts, piece):
    """The expected number of pieces of a whole piecing of amounts that are the same as a closed piece."""
    _check_some(sheet, amounts)
    check_piece(sheet, piece)
    if free_ends(sheet, piece):
        raise NotClosed("the piece has free ends")
    _check_balanced(sheet, amounts)
    used = amounts_of(sheet, piece)
    if any([used[name] > amounts.get(name, 0) for name in used]):
        return 0, 1
    places = _number_of_renamings(sheet, used)
    for name, many in used.items():
        places *= perm(amounts[name], many)
    return _reduced(places, turns(sheet, piece) * _number_of_links(sheet, amounts, used))
