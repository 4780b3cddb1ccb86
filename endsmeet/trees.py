"""Closed trees with a told block, and trees with a top."""

from endsmeet.errors import TooLarge
from endsmeet.given import check_block, check_sheet
from endsmeet.growing import cheapest_stems, hang_trees, other_ends
from endsmeet.pieces import MOST_COPIES, Piece, copied, free_ends, is_piece_of, rings


def is_tree_of(sheet, piece):
    """Whether a value is a piece of a sheet without rings."""
    return is_piece_of(sheet, piece) and rings(sheet, piece) == 0


class InTree:
    """A closed tree with a told block."""

    def __init__(self, piece):
        self.piece = copied(piece)

    def shows(self, sheet, name):
        """Whether the piece is as described for a block."""
        check_sheet(sheet)
        check_block(sheet, name)
        if not is_tree_of(sheet, self.piece) or free_ends(sheet, self.piece):
            return False
        return name in self.piece.blocks

    def __eq__(self, other):
        return isinstance(other, InTree) and self.piece == other.piece


class NotInTree:
    """Kinds that are never tops of trees, and rule out a closed tree with a told block."""

    def __init__(self, never):
        self.never = list(never)

    def shows(self, sheet, name):
        """Whether the kinds are as described for a block."""
        check_sheet(sheet)
        check_block(sheet, name)
        never = self.never
        if not isinstance(never, list) or never != [kind for kind in sheet.kinds() if kind in never]:
            return False
        for block in sheet:
            ends = sheet.ends(block)
            stuck = [end for end, kind in enumerate(ends) if sheet.partner(kind) in never]
            for end, kind in enumerate(ends):
                if kind in never and not [other for other in stuck if other != end]:
                    return False
        return any([sheet.partner(kind) in never for kind in sheet.ends(name)])

    def __eq__(self, other):
        return isinstance(other, NotInTree) and self.never == other.never


def in_tree(sheet, name):
    """An InTree or a NotInTree of a block."""
    check_sheet(sheet)
    check_block(sheet, name)
    stems = cheapest_stems(sheet, {block: 0 for block in sheet})
    asked = [sheet.partner(kind) for kind in sheet.ends(name)]
    if not all([kind in stems for kind in asked]):
        return NotInTree([kind for kind in sheet.kinds() if kind not in stems])
    if 1 + sum([stems[kind].many for kind in asked]) > MOST_COPIES:
        raise TooLarge("the closed trees with this block have more than 200 copies")
    blocks, links = [name], []
    hang_trees(sheet, stems, (blocks, links), other_ends(sheet, 0, name, ()))
    return InTree(Piece(blocks, sorted(links)))


def tops(sheet):
    """A dict from all kinds of which there is a tree with a top to the least number of copies of one."""
    check_sheet(sheet)
    stems = cheapest_stems(sheet, {block: 0 for block in sheet})
    return {kind: stems[kind].many for kind in sheet.kinds() if kind in stems}
