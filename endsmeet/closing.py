"""Least closings, and the greatest number of pieces of amounts."""

from endsmeet.balance import full_amounts, is_amounts_dict, is_balanced
from endsmeet.errors import BadSheet, NotBalanced, TooLarge
from endsmeet.given import check_amounts, check_sheet, check_some_amounts
from endsmeet.least import least_vectors
from endsmeet.vectors import box_size, even_vectors, rows_of, taken
from endsmeet.words import is_count

MOST_BLOCKS = 6
MOST_JOINTS = 3
MOST_VECTORS = 3000


def _check_size(sheet):
    """Raise TooLarge, if the least closings of a sheet are not told."""
    if len(sheet) > MOST_BLOCKS or len(sheet.joints()) > MOST_JOINTS:
        raise TooLarge("the sheet has more than 6 blocks, or more than 3 joints")


def _least_of(sheet):
    """The ordered list of the least closings of a sheet that is not too large."""
    names = sheet.names()
    return [dict(zip(names, vector)) for vector in least_vectors(len(names), rows_of(sheet, names))]


def least_closings(sheet):
    """The list of the least closings, lesser sums first, then by the amounts of the blocks."""
    check_sheet(sheet)
    _check_size(sheet)
    return _least_of(sheet)


def _check_closing(sheet, amounts):
    """Raise NotBalanced, or TooLarge, if amounts cannot be closed, or are too great to be split."""
    if not is_balanced(sheet, amounts):
        raise NotBalanced("these amounts have no whole piecing")
    if box_size(amounts) > MOST_VECTORS:
        raise TooLarge("the product of the amounts is more than 3000")


def always_one(sheet, amounts):
    """Whether each whole piecing of amounts is in one piece."""
    check_sheet(sheet)
    check_amounts(sheet, amounts)
    _check_closing(sheet, amounts)
    _, vectors = even_vectors(sheet, amounts)
    return len(vectors) == 2


def _best_splits(vectors):
    """For each vector the greatest number of least closings of which it is the sum, and one of these."""
    best = {vectors[0]: (0, vectors[0])}
    least = []
    for vector in vectors[1:]:
        many, part = 1, vector
        for other in least:
            rest = taken(vector, other)
            if min(rest) >= 0 and best[rest][0] + 1 > many:
                many, part = best[rest][0] + 1, other
        if part == vector:
            least.append(vector)
        best[vector] = (many, part)
    return best


class Most:
    """Least closings, as many as can be, whose sum are some amounts."""

    def __init__(self, parts):
        self.parts = [dict(part) for part in parts]

    def shows(self, sheet, amounts):
        """Whether the parts are as described for amounts."""
        check_sheet(sheet)
        check_some_amounts(sheet, amounts)
        _check_closing(sheet, amounts)
        if not isinstance(self.parts, list) or not all([_is_closing(sheet, part) for part in self.parts]):
            return False
        total = {name: sum([part[name] for part in self.parts]) for name in sheet}
        if total != full_amounts(sheet, amounts):
            return False
        # A part that is no least closing could be split, so that the number of parts would not be greatest.
        _, vectors = even_vectors(sheet, amounts)
        return len(self.parts) == _best_splits(vectors)[vectors[-1]][0]

    def __eq__(self, other):
        return isinstance(other, Most) and self.parts == other.parts


def _is_closing(sheet, part):
    """Whether a value is amounts other than 0, with all names, that have a whole piecing."""
    if not is_amounts_dict(sheet, part) or not all([is_count(many) for many in part.values()]):
        return False
    return any(list(part.values())) and is_balanced(sheet, part)


def most(sheet, amounts):
    """A Most of amounts."""
    check_sheet(sheet)
    check_some_amounts(sheet, amounts)
    _check_closing(sheet, amounts)
    names, vectors = even_vectors(sheet, amounts)
    best = _best_splits(vectors)
    parts = []
    left = vectors[-1]
    while any(left):
        part = best[left][1]
        parts.append(full_amounts(sheet, dict(zip(names, part))))
        left = taken(left, part)
    return Most(parts)


def first_unlike(one, other):
    """Amounts that have a whole piecing for just one of two sheets, or None."""
    check_sheet(one)
    check_sheet(other)
    if one.names() != other.names():
        raise BadSheet("the sheets have other names of blocks")
    _check_size(one)
    _check_size(other)
    for sheet, against in ((one, other), (other, one)):
        for amounts in _least_of(sheet):
            if not is_balanced(against, amounts):
                return amounts
    return None
