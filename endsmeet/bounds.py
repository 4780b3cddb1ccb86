"""Values of kinds that bound the prices of trees with a top from below."""

from endsmeet.balance import is_kinds_dict
from endsmeet.words import is_count


def are_values(sheet, told):
    """Whether a value is a dict from just the kinds of a sheet to integers from 0, or None."""
    if not is_kinds_dict(sheet, told):
        return False
    return all([worth is None or is_count(worth) for worth in told.values()])


def are_bounds(sheet, prices, bounds):
    """Whether a value is values of kinds such that no tree with a top is cheaper than that of its top."""
    if not are_values(sheet, bounds):
        return False
    for name in sheet:
        ends = sheet.ends(name)
        asked = [bounds[sheet.partner(kind)] for kind in ends]
        for end, kind in enumerate(ends):
            if not _is_bound(bounds[kind], prices[name], asked[:end] + asked[end + 1:]):
                return False
    return True


def _is_bound(worth, price, asked):
    """Whether a value is not too great for a block of some price with values at its other ends."""
    if worth is None:
        return None in asked
    return None in asked or worth <= price + sum(asked)


def stem_bounds(sheet, stems):
    """The greatest bounds: the prices of cheapest trees."""
    return {kind: stems[kind].price if kind in stems else None for kind in sheet.kinds()}


def price_of(prices, piece):
    """The sum of the prices of the copies of a piece."""
    return sum([prices[name] for name in piece.blocks])
