"""From one whole piecing to another one by as few exchanges of two links as can be."""

from endsmeet.errors import BadLinks
from endsmeet.given import check_amounts, check_sheet
from endsmeet.joining import copies_of, is_whole_piecing
from endsmeet.links import do_fit, facing_ends


def _check_exchanges(sheet, amounts, first, last):
    """Raise BadSheet, BadAmounts or BadLinks for what is no sheet, amounts or whole piecing."""
    check_sheet(sheet)
    check_amounts(sheet, amounts)
    for links in (first, last):
        if not is_whole_piecing(sheet, amounts, links):
            raise BadLinks("this is not a whole piecing of the amounts")


def _least_number(first, last):
    """The least number of exchanges from one whole piecing to another one.

    The links of both together make rings of ends, one for each link that is in both. An exchange makes at most one
    ring more, and at the end there are as many rings as links.
    """
    before, behind = facing_ends(first), facing_ends(last)
    rings = 0
    seen = {}
    for start in before:
        if start not in seen:
            rings += 1
            place = start
            while place not in seen:
                seen[place] = True
                seen[before[place]] = True
                place = behind[before[place]]
    return len(first) - rings


def _is_exchange(sheet, blocks, before, after):
    """Whether a whole piecing becomes a list of links by an exchange."""
    if not isinstance(after, list) or len(after) != len(before):
        return False
    kept, made = {link: True for link in after}, {link: True for link in before}
    gone = [link for link in before if link not in kept]
    new = [link for link in after if link not in made]
    if len(gone) != 2 or len(new) != 2:
        return False
    if sorted([place for link in new for place in link]) != sorted([place for link in gone for place in link]):
        return False
    return all([link[0] < link[1] for link in new]) and do_fit(sheet, blocks, new) and after == sorted(after)


class Exchanges:
    """Whole piecings from a first one to a last one, each by an exchange from the one before."""

    def __init__(self, steps):
        self.steps = [list(step) for step in steps]

    def shows(self, sheet, amounts, first, last):
        """Whether the steps are as described for amounts and two whole piecings."""
        _check_exchanges(sheet, amounts, first, last)
        steps = self.steps
        if not isinstance(steps, list) or len(steps) != _least_number(first, last) + 1:
            return False
        if steps[0] != first or steps[-1] != last:
            return False
        blocks = copies_of(sheet, amounts)
        return all([_is_exchange(sheet, blocks, steps[at], steps[at + 1]) for at in range(len(steps) - 1)])

    def __eq__(self, other):
        return isinstance(other, Exchanges) and self.steps == other.steps


def _exchanged(links, gone, new):
    """The links without some, and with others, in order."""
    return sorted([link for link in links if link not in gone] + new)


def exchanges(sheet, amounts, first, last):
    """Exchanges from one whole piecing of amounts to another one."""
    _check_exchanges(sheet, amounts, first, last)
    facing = facing_ends(first)
    steps = [list(first)]
    for one, other in last:
        if facing[one] != other:
            near, far = facing[one], facing[other]
            gone = [(min(one, near), max(one, near)), (min(other, far), max(other, far))]
            new = [(one, other), (min(near, far), max(near, far))]
            steps.append(_exchanged(steps[-1], gone, new))
            facing.update(facing_ends(new))
    return Exchanges(steps)
