"""All closed pieces of some amounts, each told once up to sameness."""

from endsmeet.balance import is_balanced
from endsmeet.errors import TooLarge
from endsmeet.given import check_sheet, check_some_amounts
from endsmeet.joining import copies_of, places_by_kind
from endsmeet.links import parts_of
from endsmeet.pieces import MOST_COPIES, Piece
from endsmeet.splits import number_of_ways

MOST_WAYS = 5000


def _pairings(ends, others):
    """All ways to join the ends of one list with those of another one."""
    if not ends:
        return [[]]
    found = []
    for at, other in enumerate(others):
        for pairs in _pairings(ends[1:], others[:at] + others[at + 1:]):
            found.append([(ends[0], other)] + pairs)
    return found


def _own_pairings(ends):
    """All ways to join the ends of one list with one another."""
    if not ends:
        return [[]]
    found = []
    for at in range(1, len(ends)):
        for pairs in _own_pairings(ends[1:at] + ends[at + 1:]):
            found.append([(ends[0], ends[at])] + pairs)
    return found


class Choices:
    """The whole piecings of amounts: links that are in all of them, and ways to join the other ends.

    The other ends are numbered; a way is told by a tuple that has for each of them the number of the end that it is
    joined to.
    """

    def __init__(self, sheet, blocks):
        places = places_by_kind(sheet, blocks)
        self.fixed = []
        self.places = []
        self.pairs = [[]]
        for joint in sheet.joints():
            other = sheet.partner(joint)
            ways = _own_pairings(places[joint]) if other == joint else _pairings(places[joint], places[other])
            if len(ways) == 1:
                self.fixed.extend(ways[0])
            else:
                self.places.extend(places[joint] if other == joint else places[joint] + places[other])
                self.pairs = [one + two for one in self.pairs for two in ways]
        self.number_at = {place: at for at, place in enumerate(self.places)}

    def way_of(self, pairs):
        """The tuple of a way, told by pairs of ends."""
        found = [0] * len(self.places)
        for one, other in pairs:
            found[self.number_at[one]] = self.number_at[other]
            found[self.number_at[other]] = self.number_at[one]
        return tuple(found)

    def swap(self, pairs):
        """For each end the one that it becomes, if the ends of pairs change places."""
        found = list(range(len(self.places)))
        for one, other in pairs:
            # Ends of one kind are numbered or not together.
            if one in self.number_at:
                found[self.number_at[one]] = self.number_at[other]
                found[self.number_at[other]] = self.number_at[one]
        return found


def _swaps(sheet, blocks, choices):
    """Changes of places from which all are made that keep blocks of copies and kinds of their ends."""
    swaps = []
    for copy, name in enumerate(blocks):
        ends = sheet.ends(name)
        for end, kind in enumerate(ends):
            if kind in ends[end + 1:]:
                swaps.append([((copy, end), (copy, ends.index(kind, end + 1)))])
        if copy + 1 < len(blocks) and blocks[copy + 1] == name:
            swaps.append([((copy, end), (copy + 1, end)) for end in range(len(ends))])
    moves = [choices.swap(pairs) for pairs in swaps]
    still = list(range(len(choices.places)))
    return [move for move in moves if move != still]


def _mark_alike(first, moves, seen):
    """Mark a way, and all those that come of it by moves, as seen."""
    waiting = [first]
    seen[first] = True
    while waiting:
        way = waiting.pop()
        for move in moves:
            # A move is its own opposite.
            image = tuple([move[way[at]] for at in move])
            if image not in seen:
                seen[image] = True
                waiting.append(image)


def _is_joined(many, label, pairs):
    """Whether so many parts of copies, told by a label for each copy, are one by the links of pairs."""
    return len(parts_of(many, [((label[one[0]], 0), (label[other[0]], 0)) for one, other in pairs])) == 1


def _pieces_from(sheet, blocks):
    """The closed pieces of copies with a whole piecing, no two of them the same."""
    choices = Choices(sheet, blocks)
    parts = parts_of(len(blocks), choices.fixed)
    label = {copy: at for at, part in enumerate(parts) for copy in part}
    moves = _swaps(sheet, blocks, choices)
    seen = {}
    pieces = []
    for pairs in choices.pairs:
        way = choices.way_of(pairs)
        if way not in seen and _is_joined(len(parts), label, pairs):
            _mark_alike(way, moves, seen)
            links = [(min(one, other), max(one, other)) for one, other in choices.fixed + pairs]
            pieces.append(Piece(blocks, sorted(links)))
    return pieces


def closed_pieces(sheet, amounts):
    """A list of the closed pieces with just some amounts, no two of them the same."""
    check_sheet(sheet)
    check_some_amounts(sheet, amounts)
    if sum(list(amounts.values())) > MOST_COPIES:
        raise TooLarge("there are more than 200 copies")
    if not is_balanced(sheet, amounts):
        return []
    if number_of_ways(sheet, amounts) > MOST_WAYS:
        raise TooLarge("there are more than 5000 whole piecings")
    return _pieces_from(sheet, copies_of(sheet, amounts))
