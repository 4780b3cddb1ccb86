"""Maps of the left one of two nets onto the right one that keep colours and neighbours: one, and how many."""

from endsmeet.colours import cells_of, components, marked, restricted


def _loose_parts(net, cells):
    """The connected parts of nodes that are not alone with their colour on a side: left and right ones."""
    lefts, rights = {}, {}
    for cell in cells.values():
        if len(cell) > 2:
            for node in cell:
                side = lefts if node < net.half else rights
                side[node] = True
    return components(net, lefts), components(net, rights)


def _signature(colour, part):
    """The colours of a part; only parts with equal ones can be alike."""
    return tuple(sorted([colour[node] for node in part]))


def _least_cell(colour):
    """The ascending nodes of a colour that has as few nodes as can be."""
    cells = list(cells_of(colour).values())
    least = min([len(cell) for cell in cells])
    return sorted([cell for cell in cells if len(cell) == least][0])


def matched(net, colour):
    """A map of the left nodes onto the right ones, for settled and balanced colours, or None.

    Nodes that are alone with their colour on their side have but one image. Without them the nets fall into
    parts that have nothing to do with one another, and are matched one by one.
    """
    cells = cells_of(colour)
    found = {min(cell): max(cell) for cell in cells.values() if len(cell) == 2}
    lefts, rights = _loose_parts(net, cells)
    waiting = {}
    for part in rights:
        waiting.setdefault(_signature(colour, part), []).append(part)
    for part in lefts:
        inner = _take_match(net, colour, part, waiting.get(_signature(colour, part), []))
        if inner is None:
            return None
        found.update(inner)
    return found


def _take_match(net, colour, part, others):
    """A map of a part onto one of some others, which is taken from them, or None."""
    for at, other in enumerate(list(others)):
        found = _match_parts(net, restricted(colour, part + other))
        if found is not None:
            del others[at]
            return found
    return None


def _match_parts(net, colour):
    """A map of one left part onto one right part with the same colours, or None."""
    least = _least_cell(colour)
    if len(least) == 2:
        return matched(net, colour)
    failed = []
    for other in least[len(least) // 2:]:
        if any([_can_turn(net, colour, wrong, other) for wrong in failed]):
            continue
        trial = marked(net, colour, least[0], other)
        if trial is not None:
            found = matched(net, trial)
            if found is not None:
                return found
            failed.append(other)
    return None


def _can_turn(net, colour, wrong, other):
    """Whether a right node can be taken to another one by a map of the right side: it fails as the other did."""
    twins = {}
    for node, tint in colour.items():
        if node >= net.half:
            twins[node] = tint
            twins[node - net.half] = tint
    return _match_marked(net.twin, twins, wrong - net.half, other) is not None


def _match_marked(net, colour, one, other):
    """A map that takes a left node to a right one, or None."""
    trial = marked(net, colour, one, other)
    return None if trial is None else matched(net, trial)


def count_matches(net, colour):
    """The number of maps of a net onto its double; the double of a node has a number greater by `half`."""
    lefts, _ = _loose_parts(net, cells_of(colour))
    groups = []
    for part in lefts:
        alike = [group for group in groups if _are_alike(net, colour, group[0], part)]
        if alike:
            alike[0].append(part)
        else:
            groups.append([part])
    total = 1
    for group in groups:
        own = _count_part(net, restricted(colour, _doubled(net, group[0], group[0])))
        for at in range(len(group)):
            total *= (at + 1) * own
    return total


def _doubled(net, part, other):
    """The nodes of a part, and the doubles of those of another one."""
    return part + [node + net.half for node in other]


def _are_alike(net, colour, part, other):
    """Whether a part can be taken onto the double of another one."""
    if _signature(colour, part) != _signature(colour, other):
        return False
    return _match_parts(net, restricted(colour, _doubled(net, part, other))) is not None


def _count_part(net, colour):
    """The number of maps of a part onto its double: the images of one node, times the maps that keep it."""
    least = _least_cell(colour)
    if len(least) == 2:
        return count_matches(net, colour)
    one = least[0]
    fixed = marked(net, colour, one, one + net.half)
    return _count_images(net, colour, least[:len(least) // 2]) * count_matches(net, fixed)


def _count_images(net, colour, nodes):
    """The number of some left nodes to whose doubles the first one of them can be taken by a map."""
    above = {node: node for node in colour if node < net.half}
    failed = []
    for node in nodes:
        # A map that is found can be repeated, so that it tells images of many nodes at once.
        top = _top(above, node)
        if top == _top(above, nodes[0]) or top in [_top(above, other) for other in failed]:
            continue
        found = _match_marked(net, colour, nodes[0], node + net.half)
        if found is None:
            failed.append(node)
        else:
            for one, image in found.items():
                above[_top(above, one)] = _top(above, image - net.half)
    return len([node for node in nodes if _top(above, node) == _top(above, nodes[0])])


def _top(above, node):
    """The node that stands for all those that are known to be images of one another."""
    while above[node] != node:
        above[node] = above[above[node]]
        node = above[node]
    return node
