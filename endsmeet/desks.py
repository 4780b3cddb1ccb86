"""Desks: copies and links that are made and taken away, and trials that leave no trace."""

from endsmeet.errors import BadLinks
from endsmeet.given import check_block, check_sheet
from endsmeet.joining import pieces_from
from endsmeet.words import is_int


class Moment:
    """The copies and the links of a desk at some time."""

    def __init__(self, blocks, facing):
        self.blocks = list(blocks)
        self.facing = {place: facing[place] for place in facing}


class Desk:
    """Copies of blocks of a sheet, and links between their ends."""

    def __init__(self, sheet):
        check_sheet(sheet)
        self._sheet = sheet
        self._now = Moment([], {})
        # Where the innermost trial returns to; None outside of trials.
        self._kept = None

    def __len__(self):
        return len(self._now.blocks)

    def add(self, name):
        """Add a copy of a block behind the others, and return its number."""
        check_block(self._sheet, name)
        self._now.blocks.append(name)
        return len(self._now.blocks) - 1

    def join(self, copy, end, other, end_there):
        """Make a link between two free ends whose kinds are partners."""
        one, two = (copy, end), (other, end_there)
        if not self._is_free(one) or not self._is_free(two) or one == two:
            raise BadLinks("an end does not exist, or is in a link, or both are the same")
        if self._sheet.partner(self._kind(one)) != self._kind(two):
            raise BadLinks("the kinds of the ends are not partners")
        facing = self._now.facing
        facing[one] = two
        facing[two] = one

    def part(self, copy, end):
        """Take the link of an end away."""
        place = (copy, end)
        facing = self._now.facing
        if not self._is_end(place) or place not in facing:
            raise BadLinks("the end is in no link")
        other = facing[place]
        del facing[place]
        # An end is never joined to itself, so the other one is still there.
        del facing[other]

    def all_links(self):
        """The ascending list of the links."""
        return sorted([(one, other) for one, other in self._now.facing.items() if one < other])

    def pieces(self):
        """The list of the pieces, by their least copies."""
        return pieces_from(self._now.blocks, self.all_links())

    def free(self):
        """The ascending list of the free ends."""
        places = []
        for copy, name in enumerate(self._now.blocks):
            places.extend([(copy, end) for end in range(len(self._sheet.ends(name)))])
        return [place for place in places if place not in self._now.facing]

    def trial(self, work):
        """Call a function with the desk, and return what it returns; the desk is as it was, or as it was kept."""
        outer = self._kept
        self._kept = Moment(self._now.blocks, self._now.facing)
        try:
            return work(self)
        finally:
            self._now = self._kept
            self._kept = outer

    def keep(self):
        """Let the trial return to what is on the desk now."""
        if self._kept is not None:
            self._kept = Moment(self._now.blocks, self._now.facing)

    def _is_end(self, place):
        """Whether a pair is an end of a copy on the desk."""
        copy, end = place
        if not is_int(copy) or not is_int(end) or not 0 <= copy < len(self._now.blocks):
            return False
        return 0 <= end < len(self._sheet.ends(self._now.blocks[copy]))

    def _is_free(self, place):
        """Whether a pair is an end that is in no link."""
        return self._is_end(place) and place not in self._now.facing

    def _kind(self, place):
        """The kind of an end."""
        return self._sheet.ends(self._now.blocks[place[0]])[place[1]]
