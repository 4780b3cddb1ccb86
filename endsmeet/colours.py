"""Nodes of two nets alike, a left one and a right one, with colours that tell them apart.

The nodes of the left net are numbered from 0, those of the right one from `half` on. Colours are a dict from
nodes to numbers from 0; they are settled, if nodes of one colour have as many neighbours of each colour, and
balanced, if each colour has as many nodes on the left as on the right.
"""


class Net:
    """The neighbours of the nodes of two nets, told for each one by numbers from 0.

    Its twin has the right net on both sides.
    """

    def __init__(self, lefts, rights):
        self.half = len(lefts)
        self.near = list(lefts) + [[self.half + node for node in near] for near in rights]
        self.twin = self if lefts == rights else Net(rights, rights)


def cells_of(colour):
    """A dict from each colour to a dict of its nodes."""
    cells = {}
    for node, tint in colour.items():
        cells.setdefault(tint, {})[node] = True
    return cells


def restricted(colour, nodes):
    """The colours of some nodes alone, numbered anew."""
    numbers = {}
    return {node: numbers.setdefault(colour[node], len(numbers)) for node in nodes}


def _touched(net, colour, cell):
    """The nodes near a cell: a dict from colours to dicts from numbers of neighbours to lists of nodes."""
    counts = {}
    for node in cell:
        for other in net.near[node]:
            if other in colour:
                counts[other] = counts.get(other, 0) + 1
    groups = {}
    for node, many in counts.items():
        groups.setdefault(colour[node], {}).setdefault(many, []).append(node)
    return groups


def _split(colour, cells, tint, groups):
    """Split the nodes of a colour by groups; the list of the new colours."""
    parts = list(groups.values())
    if sum([len(part) for part in parts]) == len(cells[tint]):
        # No node is left over, so that one group has to keep the colour.
        parts = parts[1:]
    made = []
    for part in parts:
        fresh = len(cells)
        cells[fresh] = {node: True for node in part}
        for node in part:
            del cells[tint][node]
            colour[node] = fresh
        made.append(fresh)
    return made


def _is_balanced(net, cell):
    """Whether as many nodes of a cell are on the left as on the right."""
    return 2 * len([node for node in cell if node < net.half]) == len(cell)


def settle(net, colour, tints):
    """Split colours until they are settled, told which may split others; whether they are still balanced."""
    cells = cells_of(colour)
    queue = list(tints)
    waiting = {tint: True for tint in queue}
    while queue:
        tint = queue.pop()
        del waiting[tint]
        touched = _touched(net, colour, cells[tint])
        for other, groups in touched.items():
            made = _split(colour, cells, other, groups)
            if not all([_is_balanced(net, cells[fresh]) for fresh in made]):
                return False
            if made and other not in waiting:
                # One part need not be looked at again; the largest one saves most.
                made.append(other)
                most = max([len(cells[part]) for part in made])
                made.remove([part for part in made if len(cells[part]) == most][0])
            for fresh in made:
                waiting[fresh] = True
                queue.append(fresh)
    return True


def marked(net, colour, one, other):
    """The settled colours, if a left node and a right one get a colour of their own; None if not balanced."""
    trial = dict(colour)
    fresh = max(list(colour.values())) + 1
    trial[one] = fresh
    trial[other] = fresh
    return trial if settle(net, trial, [fresh]) else None


def settled(net, colour):
    """The settled colours that come of some; None if they are not balanced."""
    trial = dict(colour)
    cells = cells_of(trial)
    if not all([_is_balanced(net, cell) for cell in cells.values()]):
        return None
    return trial if settle(net, trial, list(cells)) else None


def components(net, nodes):
    """The lists of nodes that are connected, of a dict of nodes."""
    found = []
    seen = {}
    for first in nodes:
        if first in seen:
            continue
        seen[first] = True
        part = [first]
        at = 0
        while at < len(part):
            near = net.near[part[at]]
            for other in near:
                if other in nodes and other not in seen:
                    seen[other] = True
                    part.append(other)
            at += 1
        found.append(part)
    return found
