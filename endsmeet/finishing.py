"""Finishing a piece at the least price: a tree for each of its free ends."""

from endsmeet.bounds import are_bounds, price_of, stem_bounds
from endsmeet.errors import NoFinish, TooLarge
from endsmeet.given import check_prices, check_sheet
from endsmeet.growing import cheapest_stems, hang_trees, other_ends
from endsmeet.pieces import MOST_COPIES, Piece, check_piece, copied, free_ends
from endsmeet.trees import is_tree_of
from endsmeet.words import is_int


def _asked_by(sheet, piece):
    """The list of the partners of the kinds of the free ends of a piece."""
    places = free_ends(sheet, piece)
    return [sheet.partner(sheet.ends(piece.blocks[copy])[end]) for copy, end in places]


def _has_top(sheet, tree, kind):
    """Whether a value is a tree of a sheet with a top of a kind."""
    if not is_tree_of(sheet, tree):
        return False
    free = free_ends(sheet, tree)
    return len(free) == 1 and sheet.ends(tree.blocks[free[0][0]])[free[0][1]] == kind


class Finish:
    """A tree for each free end of a piece, their price, and bounds that show that none are cheaper."""

    def __init__(self, trees, price, bounds):
        self.trees = [copied(tree) for tree in trees]
        self.price = price
        self.bounds = dict(bounds)

    def shows(self, sheet, piece, prices):
        """Whether trees, price and bounds are as described for a piece and prices."""
        check_sheet(sheet)
        check_piece(sheet, piece)
        check_prices(sheet, prices)
        asked = _asked_by(sheet, piece)
        if not isinstance(self.trees, list) or len(self.trees) != len(asked):
            return False
        if not all([_has_top(sheet, tree, kind) for tree, kind in zip(self.trees, asked)]):
            return False
        if not is_int(self.price) or self.price != sum([price_of(prices, tree) for tree in self.trees]):
            return False
        if not are_bounds(sheet, prices, self.bounds):
            return False
        worths = [self.bounds[kind] for kind in asked]
        return None not in worths and self.price == sum(worths)

    def __eq__(self, other):
        return (
            isinstance(other, Finish)
            and self.trees == other.trees
            and self.price == other.price
            and self.bounds == other.bounds
        )


def _tree_of(sheet, stems, kind):
    """The tree of a stem."""
    stem = stems[kind]
    blocks, links = [stem.name], []
    hang_trees(sheet, stems, (blocks, links), other_ends(sheet, 0, stem.name, (stem.end,)))
    return Piece(blocks, sorted(links))


def finish(sheet, piece, prices):
    """A Finish of a piece."""
    check_sheet(sheet)
    check_piece(sheet, piece)
    check_prices(sheet, prices)
    stems = cheapest_stems(sheet, prices)
    asked = _asked_by(sheet, piece)
    for kind in asked:
        if kind not in stems:
            raise NoFinish(kind)
    if any([stems[kind].many > MOST_COPIES for kind in asked]):
        raise TooLarge("a cheapest tree has more than 200 copies")
    trees = [_tree_of(sheet, stems, kind) for kind in asked]
    price = sum([stems[kind].price for kind in asked])
    return Finish(trees, price, stem_bounds(sheet, stems))
