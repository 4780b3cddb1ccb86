"""Whether two pieces are the same, and how often a piece can be turned to itself."""

from endsmeet.colours import Net, settled
from endsmeet.given import check_sheet
from endsmeet.links import facing_ends
from endsmeet.matching import count_matches, matched
from endsmeet.pieces import check_piece
from endsmeet.words import is_int


def _is_order(told, many):
    """Whether a list or tuple has each of the numbers from 0 to many - 1 once."""
    return len(told) == many and all([is_int(at) for at in told]) and sorted(told) == list(range(many))


def _is_same(sheet, same_as, one, other):
    """Whether the images that are told keep the blocks, the kinds of ends and the links."""
    copies, turned = same_as
    if not isinstance(copies, list) or not isinstance(turned, list) or len(one) != len(other):
        return False
    if not _is_order(copies, len(one)) or len(turned) != len(one):
        return False
    for copy, name in enumerate(one.blocks):
        ends = sheet.ends(name)
        if other.blocks[copies[copy]] != name or not isinstance(turned[copy], tuple):
            return False
        if not _is_order(turned[copy], len(ends)) or tuple([ends[end] for end in turned[copy]]) != ends:
            return False
    images = []
    for link in one.links:
        images.append(tuple(sorted([(copies[copy], turned[copy][end]) for copy, end in link])))
    return sorted(images) == list(other.links)


class Same:
    """The images of copies and ends that show that two pieces are the same."""

    def __init__(self, copies, turned):
        self.copies = list(copies)
        self.turned = list(turned)

    def shows(self, sheet, one, other):
        """Whether the images are as described for two pieces."""
        check_sheet(sheet)
        check_piece(sheet, one)
        check_piece(sheet, other)
        return _is_same(sheet, (self.copies, self.turned), one, other)

    def __eq__(self, other):
        return isinstance(other, Same) and self.copies == other.copies and self.turned == other.turned


def _first_ends(sheet, piece):
    """The nodes of the first ends of the copies, and behind the last one the number of all nodes."""
    firsts = [len(piece)]
    for name in piece.blocks:
        firsts.append(firsts[-1] + len(sheet.ends(name)))
    return firsts


def _near_of(sheet, piece):
    """The neighbours of the nodes of a piece, copies before ends."""
    firsts = _first_ends(sheet, piece)
    facing = facing_ends(piece.links)
    copies, ends = [], []
    for copy, name in enumerate(piece.blocks):
        own = list(range(firsts[copy], firsts[copy + 1]))
        copies.append(own)
        for end in range(len(own)):
            near = [copy]
            if (copy, end) in facing:
                other, end_there = facing[(copy, end)]
                near.append(firsts[other] + end_there)
            ends.append(near)
    return copies + ends


def _tints_of(sheet, piece):
    """What each node of a piece is: the block of a copy, or the kind of an end."""
    ends = [("end", kind) for name in piece.blocks for kind in sheet.ends(name)]
    return [("copy", name) for name in piece.blocks] + ends


def _net_of(sheet, one, other):
    """The net of two pieces with as many ends, and the settled colours of its nodes, or None."""
    net = Net(_near_of(sheet, one), _near_of(sheet, other))
    tints = _tints_of(sheet, one) + _tints_of(sheet, other)
    numbers = {}
    colour = {node: numbers.setdefault(tint, len(numbers)) for node, tint in enumerate(tints)}
    return net, settled(net, colour)


def same(sheet, one, other):
    """A Same of two pieces, or None, if they are not the same."""
    check_sheet(sheet)
    check_piece(sheet, one)
    check_piece(sheet, other)
    if sorted(one.blocks) != sorted(other.blocks) or len(one.links) != len(other.links):
        return None
    net, colour = _net_of(sheet, one, other)
    found = None if colour is None else matched(net, colour)
    if found is None:
        return None
    starts, firsts = _first_ends(sheet, one), _first_ends(sheet, other)
    copies = [found[copy] - net.half for copy in range(len(one))]
    turned = []
    for copy, image in enumerate(copies):
        nodes = range(starts[copy], starts[copy + 1])
        turned.append(tuple([found[node] - net.half - firsts[image] for node in nodes]))
    return Same(copies, turned)


def turns(sheet, piece):
    """The number of the turns of a piece."""
    check_piece(sheet, piece)
    net, colour = _net_of(sheet, piece, piece)
    return count_matches(net, colour)
