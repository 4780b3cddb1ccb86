"""Pieces: copies of blocks that are connected along links."""

from endsmeet.errors import BadPiece
from endsmeet.given import check_sheet
from endsmeet.links import are_links, do_fit, facing_ends, parts_of
from endsmeet.words import is_word

MOST_COPIES = 200


def _are_copies(blocks):
    """Whether a value is a list or tuple of 1 to 200 words."""
    if not isinstance(blocks, (list, tuple)) or not 1 <= len(blocks) <= MOST_COPIES:
        return False
    return all([is_word(name) for name in blocks])


def _are_linked(blocks, links):
    """Whether a value is links in order that connect all copies."""
    if not isinstance(links, (list, tuple)) or not are_links(links, len(blocks)):
        return False
    return len(parts_of(len(blocks), links)) == 1


class Piece:
    """Copies of blocks, and the links that connect them."""

    def __init__(self, blocks, links):
        if not _are_copies(blocks):
            raise BadPiece("the blocks are not a list or tuple of 1 to 200 words")
        if not _are_linked(blocks, links):
            raise BadPiece("the links are not as they must be")
        self.blocks = tuple(blocks)
        self.links = tuple(links)

    def __len__(self):
        return len(self.blocks)

    def __eq__(self, other):
        return isinstance(other, Piece) and self.blocks == other.blocks and self.links == other.links


def copied(piece):
    """A piece of its own with the same copies and links."""
    return Piece(piece.blocks, piece.links)


def is_piece_of(sheet, piece):
    """Whether a value is a piece of a sheet."""
    check_sheet(sheet)
    if not isinstance(piece, Piece):
        return False
    if not _are_copies(piece.blocks) or not _are_linked(piece.blocks, piece.links):
        return False
    return all([name in sheet for name in piece.blocks]) and do_fit(sheet, piece.blocks, piece.links)


def check_piece(sheet, piece):
    """Raise BadPiece, if a value is not a piece of a sheet."""
    if not is_piece_of(sheet, piece):
        raise BadPiece("this is not a piece of the sheet")


def free_ends(sheet, piece):
    """The ascending list of the free ends of a piece."""
    check_piece(sheet, piece)
    facing = facing_ends(piece.links)
    places = [(copy, end) for copy, name in enumerate(piece.blocks) for end in range(len(sheet.ends(name)))]
    return [place for place in places if place not in facing]


def rings(sheet, piece):
    """The number of the rings of a piece."""
    check_piece(sheet, piece)
    return len(piece.links) - len(piece) + 1


def amounts_of(sheet, piece):
    """The amounts of the blocks that a piece has."""
    check_piece(sheet, piece)
    amounts = {name: 0 for name in sorted(piece.blocks)}
    for name in piece.blocks:
        amounts[name] += 1
    return amounts
