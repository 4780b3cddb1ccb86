"""Whole piecings: all ends of amounts joined in pairs."""

from endsmeet.balance import excesses, is_balanced, number_of_ends
from endsmeet.errors import BadLinks, NotBalanced, TooLarge
from endsmeet.given import check_amounts, check_sheet
from endsmeet.links import are_links, do_fit, parts_of
from endsmeet.pieces import MOST_COPIES, Piece


def copies_of(sheet, amounts):
    """The list of the blocks of the copies of amounts, by their numbers."""
    return [name for name in sheet for _ in range(amounts.get(name, 0))]


def excess(sheet, amounts):
    """A dict from all joints to the excesses of amounts."""
    check_sheet(sheet)
    check_amounts(sheet, amounts)
    return excesses(sheet, amounts)


def is_whole_piecing(sheet, amounts, links):
    """Whether a value is a whole piecing of amounts."""
    check_sheet(sheet)
    check_amounts(sheet, amounts)
    # The number of links is compared first, so that great amounts are not counted out.
    if not isinstance(links, list) or 2 * len(links) != number_of_ends(sheet, amounts):
        return False
    blocks = copies_of(sheet, amounts)
    return are_links(links, len(blocks)) and do_fit(sheet, blocks, links)


def places_by_kind(sheet, blocks):
    """A dict from all kinds to the ends of this kind, in ascending order."""
    places = {kind: [] for kind in sheet.kinds()}
    for copy, name in enumerate(blocks):
        for end, kind in enumerate(sheet.ends(name)):
            places[kind].append((copy, end))
    return places


def joined(sheet, amounts):
    """A whole piecing of amounts."""
    check_sheet(sheet)
    check_amounts(sheet, amounts)
    if not is_balanced(sheet, amounts):
        raise NotBalanced("these amounts have no whole piecing")
    places = places_by_kind(sheet, copies_of(sheet, amounts))
    links = []
    for joint in sheet.joints():
        other = sheet.partner(joint)
        if other == joint:
            pairs = list(zip(places[joint][::2], places[joint][1::2]))
        else:
            pairs = list(zip(places[joint], places[other]))
        links.extend([(min(one, two), max(one, two)) for one, two in pairs])
    return sorted(links)


def pieces_from(blocks, links):
    """The list of the pieces that copies and links make, by their least copies."""
    parts = parts_of(len(blocks), links)
    if any([len(part) > MOST_COPIES for part in parts]):
        raise TooLarge("a piece has more than 200 copies")
    piece_at = {}
    number_at = {}
    for at, part in enumerate(parts):
        for number, copy in enumerate(part):
            piece_at[copy] = at
            number_at[copy] = number
    inner = [[] for _ in parts]
    for (copy, end), (other, end_there) in links:
        inner[piece_at[copy]].append(((number_at[copy], end), (number_at[other], end_there)))
    # The numbers within a part ascend as the copies do, so its links still ascend.
    return [Piece([blocks[copy] for copy in part], inner[at]) for at, part in enumerate(parts)]


def pieces_of(sheet, amounts, links):
    """The list of the pieces of a whole piecing of amounts, by their least copies."""
    if not is_whole_piecing(sheet, amounts, links):
        raise BadLinks("this is not a whole piecing of the amounts")
    return pieces_from(copies_of(sheet, amounts), links)
