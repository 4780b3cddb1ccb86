"""The gaps between some blocks and others in the chains of families."""

from endsmeet.linear import check_linear_names
from endsmeet.longest import longest_ways
from endsmeet.machines import shortest_walks


class Gaps:
    """The least gap, and the greatest one, or None if there is none."""

    def __init__(self, least, greatest):
        self.least = least
        self.greatest = greatest

    def __eq__(self, other):
        return isinstance(other, Gaps) and self.least == other.least and self.greatest == other.greatest


def _behind(machine, names):
    """The states to which arrows with some blocks lead."""
    return sorted(set([
        other for row in machine.arrows for sign, other in row.items() if sign[0] in names
    ]))


def _opposite(near):
    """For each state the states from which steps lead to it."""
    found = [[] for _ in near]
    for state, others in enumerate(near):
        for other in others:
            found[other].append(state)
    return found


def _greatest(near, kept, starts):
    """The most steps from some states on among those that are kept; None, if ways can go on for ever."""
    ways = longest_ways([
        [(None, other) for other in others if other in kept] if state in kept else []
        for state, others in enumerate(near)
    ])
    if None in ways:
        return None
    return max([ways[state][0] for state in starts])


def gaps(family, names, others):
    """The Gaps of a family, or None if there is no gap in its chains."""
    check_linear_names(family.sheet, names)
    check_linear_names(family.sheet, others)
    machine = family.machine
    # With each chain there is its turning, so that it is enough to look from the names on to the others.
    starts = _behind(machine, names)
    targets = [
        state for state, row in enumerate(machine.arrows) if any([sign[0] in others for sign in row])
    ]
    near = [
        [other for sign, other in row.items() if sign[0] not in names and sign[0] not in others]
        for row in machine.arrows
    ]
    ahead, _ = shortest_walks(starts, near)
    behind, _ = shortest_walks(targets, _opposite(near))
    kept = {state: True for state in ahead if state in behind}
    begun = [state for state in starts if state in kept]
    if not begun:
        return None
    # A walk counts its states, one more than the blocks between them.
    least = min([behind[state] for state in begun]) - 1
    return Gaps(least, _greatest(near, kept, begun))
