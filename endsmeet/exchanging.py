"""From one whole piecing to another one by as few exchanges of two links as can be."""

from endsmeet.errors import BadLinks
from endsmeet.given import check_amounts, check_sheet
from endsmeet.joining import copies_of, is_whole_piecing
from endsmeet.links import are_links, do_fit, facing_ends


def _check_exchanges(sheet, amounts, first, last):
    """Raise BadSheet, BadAmounts or BadLinks for what is no sheet, amounts or whole piecing."""
    check_sheet(sheet)
    check_amounts(sheet, amounts)
    for links in (first, last):
        if not is_whole_piecing(sheet, amounts, links):
            raise BadLinks("this is not a whole piecing of the amounts")


def _least_number(first, last):
    """The least number of exchanges from one whole piecing to another one.

    The links of both together make rings of ends, one for each link that is in both. An exchange makes at most one
    ring more, and at the end there are as many rings as links.
    """
    before, behind = facing_ends(first), facing_ends(last)
    rings = 0
    seen = {}
    for start in before:
        if start not in seen:
            rings += 1
            place = start
            while place not in seen:
                seen[place] = True
                seen[before[place]] = True
                place = behind[before[place]]
    return len(first) - rings


def _changes(before, after):
    """The links of a list that are not in another one, and those that come instead; None, if they are many."""
    gone, new = [], []
    at = 0
    for link in before:
        if at < len(after) and after[at] == link:
            at += 1
        elif link in after[at:]:
            place = after.index(link, at)
            new.extend(after[at:place])
            at = place + 1
        else:
            gone.append(link)
        if len(gone) > 2 or len(new) > 2:
            return None
    return gone, new + after[at:]


def _places_of(links):
    """The ascending list of the ends of some links."""
    return sorted([place for link in links for place in link])


def _is_exchange(sheet, blocks, before, after):
    """Whether a whole piecing becomes a list of links by an exchange."""
    told = _changes(before, after) if isinstance(after, list) else None
    if told is None:
        return False
    gone, new = told
    if len(gone) != 2 or new == gone or not are_links(new, len(blocks)) or _places_of(new) != _places_of(gone):
        return False
    return do_fit(sheet, blocks, new) and after == _exchanged(before, gone, new)


def _exchanged(links, gone, new):
    """The links without some, and with others, in order."""
    return sorted([link for link in links if link not in gone] + new)


class Exchanges:
    """Whole piecings from a first one to a last one, each by an exchange from the one before."""

    def __init__(self, steps):
        self.steps = [list(step) for step in steps]

    def shows(self, sheet, amounts, first, last):
        """Whether the steps are as described for amounts and two whole piecings."""
        _check_exchanges(sheet, amounts, first, last)
        steps = self.steps
        if not isinstance(steps, list) or len(steps) != _least_number(first, last) + 1:
            return False
        if steps[0] != first or steps[-1] != last:
            return False
        blocks = copies_of(sheet, amounts)
        return all([_is_exchange(sheet, blocks, steps[at], steps[at + 1]) for at in range(len(steps) - 1)])

    def __eq__(self, other):
        return isinstance(other, Exchanges) and self.steps == other.steps


def exchanges(sheet, amounts, first, last):
    """Exchanges from one whole piecing of amounts to another one."""
    _check_exchanges(sheet, amounts, first, last)
    facing = facing_ends(first)
    steps = [list(first)]
    for one, other in last:
        if facing[one] != other:
            near, far = facing[one], facing[other]
            gone = [(min(one, near), max(one, near)), (min(other, far), max(other, far))]
            new = [(one, other), (min(near, far), max(near, far))]
            steps.append(_exchanged(steps[-1], gone, new))
            facing.update(facing_ends(new))
    return Exchanges(steps)
