"""Bridges: trees with two free ends of told kinds, at the least price."""

from heapq import heappop, heappush

from endsmeet.bounds import are_bounds, are_values, price_of, stem_bounds
from endsmeet.errors import NoBridge, TooLarge
from endsmeet.given import check_prices, check_sheet
from endsmeet.growing import cheapest_stems, hang_trees, other_ends
from endsmeet.pieces import MOST_COPIES, Piece, copied, free_ends
from endsmeet.trees import is_tree_of
from endsmeet.words import is_int


def _check_bridge(sheet, kind, other, prices):
    """Raise BadSheet, BadKind or BadPrices for what is no sheet, kind, or prices."""
    check_sheet(sheet)
    sheet.partner(kind)
    sheet.partner(other)
    check_prices(sheet, prices)


def _spans_of(sheet):
    """Each block with each two of its ends, in either order."""
    spans = []
    for name in sheet:
        ends = range(len(sheet.ends(name)))
        spans.extend([(name, one, two) for one in ends for two in ends if one != two])
    return spans


def _asked_beside(sheet, span):
    """The kinds of the tops that the ends of a block ask for, but for two of them."""
    name, one, two = span
    return [sheet.partner(kind) for end, kind in enumerate(sheet.ends(name)) if end not in (one, two)]


def _are_paths(sheet, other, prices, bounds, paths):
    """Whether a value is values of kinds such that no bridge to another kind is cheaper than that of its kind."""
    if not are_values(sheet, paths):
        return False
    for span in _spans_of(sheet):
        asked = [bounds[kind] for kind in _asked_beside(sheet, span)]
        if None in asked:
            continue
        ends = sheet.ends(span[0])
        worth, near = paths[ends[span[1]]], ends[span[2]]
        price = prices[span[0]] + sum(asked)
        if near == other and (worth is None or worth > price):
            return False
        further = paths[sheet.partner(near)]
        if further is not None and (worth is None or worth > further + price):
            return False
    return True


class Bridge:
    """A bridge, its price, and values of kinds that show that none is cheaper."""

    def __init__(self, piece, price, bounds, paths):
        self.piece = copied(piece)
        self.price = price
        self.bounds = dict(bounds)
        self.paths = dict(paths)

    def shows(self, sheet, kind, other, prices):
        """Whether piece, price and values are as described for two kinds and prices."""
        _check_bridge(sheet, kind, other, prices)
        piece = self.piece
        if not is_tree_of(sheet, piece):
            return False
        free = [sheet.ends(piece.blocks[copy])[end] for copy, end in free_ends(sheet, piece)]
        if sorted(free) != sorted([kind, other]):
            return False
        if not is_int(self.price) or self.price != price_of(prices, piece):
            return False
        if not are_bounds(sheet, prices, self.bounds):
            return False
        return _are_paths(sheet, other, prices, self.bounds, self.paths) and self.paths[kind] == self.price

    def __eq__(self, other):
        return (
            isinstance(other, Bridge)
            and self.piece == other.piece
            and self.price == other.price
            and self.bounds == other.bounds
            and self.paths == other.paths
        )


def _cheapest_paths(sheet, other, prices, stems):
    """A dict from kinds to the price and number of copies of a cheapest bridge, the span it begins with, and
    whether it ends with this."""
    queue = []
    users = {kind: [] for kind in sheet.kinds()}
    for span in _spans_of(sheet):
        asked = _asked_beside(sheet, span)
        if not all([kind in stems for kind in asked]):
            continue
        price = prices[span[0]] + sum([stems[kind].price for kind in asked])
        many = 1 + sum([stems[kind].many for kind in asked])
        near = sheet.ends(span[0])[span[2]]
        users[sheet.partner(near)].append((price, many, span))
        if near == other:
            heappush(queue, (price, many, span, True))
    paths = {}
    while queue:
        price, many, span, is_last = heappop(queue)
        kind = sheet.ends(span[0])[span[1]]
        if kind in paths:
            continue
        paths[kind] = (price, many, span, is_last)
        for more, copies, before in users[kind]:
            heappush(queue, (price + more, many + copies, before, False))
    return paths


def _bridge_of(sheet, paths, stems, kind):
    """The bridge from a kind on along paths."""
    blocks, links, hanging = [], [], []
    start, leaving, is_last = kind, None, False
    while not is_last:
        _, _, span, is_last = paths[start]
        name, one, two = span
        copy = len(blocks)
        if blocks:
            links.append((leaving, (copy, one)))
        blocks.append(name)
        hanging.extend(other_ends(sheet, copy, name, (one, two)))
        leaving = (copy, two)
        start = sheet.partner(sheet.ends(name)[two])
    hang_trees(sheet, stems, (blocks, links), hanging)
    return Piece(blocks, sorted(links))


def bridge(sheet, kind, other, prices):
    """A Bridge between two kinds."""
    _check_bridge(sheet, kind, other, prices)
    stems = cheapest_stems(sheet, prices)
    paths = _cheapest_paths(sheet, other, prices, stems)
    if kind not in paths:
        raise NoBridge("there is no bridge between these kinds")
    price, many, _, _ = paths[kind]
    if many > MOST_COPIES:
        raise TooLarge("the cheapest bridges have more than 200 copies")
    piece = _bridge_of(sheet, paths, stems, kind)
    worths = {start: paths[start][0] if start in paths else None for start in sheet.kinds()}
    return Bridge(piece, price, stem_bounds(sheet, stems), worths)
