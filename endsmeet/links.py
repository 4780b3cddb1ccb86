"""Links between ends of numbered copies, apart from any piece."""

from endsmeet.sheets import MOST_ENDS
from endsmeet.words import is_int


def _is_place(thing, many):
    """Whether a value is a pair of one of so many copies and an end from 0 to 3."""
    if not isinstance(thing, tuple) or len(thing) != 2:
        return False
    copy, end = thing
    return is_int(copy) and is_int(end) and 0 <= copy < many and 0 <= end < MOST_ENDS


def _is_link(thing, many):
    """Whether a value is a link between ends of so many copies, the lesser end first."""
    if not isinstance(thing, tuple) or len(thing) != 2:
        return False
    return _is_place(thing[0], many) and _is_place(thing[1], many) and thing[0] < thing[1]


def are_links(links, many):
    """Whether a list or tuple holds ascending links of so many copies, and no end is in two."""
    if not all([_is_link(link, many) for link in links]):
        return False
    if not all([links[at] < links[at + 1] for at in range(len(links) - 1)]):
        return False
    taken = {place: True for link in links for place in link}
    return len(taken) == 2 * len(links)


def do_fit(sheet, blocks, links):
    """Whether the ends that are linked exist, and their kinds are partners."""
    for one, other in links:
        ends, others = sheet.ends(blocks[one[0]]), sheet.ends(blocks[other[0]])
        if one[1] >= len(ends) or other[1] >= len(others):
            return False
        if sheet.partner(ends[one[1]]) != others[other[1]]:
            return False
    return True


def facing_ends(links):
    """A dict from each end that is in a link to the other end of this link."""
    facing = {}
    for one, other in links:
        facing[one] = other
        facing[other] = one
    return facing


def parts_of(many, links):
    """The parts of so many copies that are connected, as ascending lists, by their least copies."""
    near = [[] for _ in range(many)]
    for one, other in links:
        near[one[0]].append(other[0])
        near[other[0]].append(one[0])
    parts = []
    seen = [False] * many
    for first in range(many):
        if not seen[first]:
            parts.append(_part_from(first, near, seen))
    return parts


def _part_from(first, near, seen):
    """The ascending list of the copies that a first one is connected with; they are marked as seen."""
    part = []
    waiting = [first]
    seen[first] = True
    while waiting:
        copy = waiting.pop()
        part.append(copy)
        for other in near[copy]:
            if not seen[other]:
                seen[other] = True
                waiting.append(other)
    return sorted(part)
