"""Trees with a top of each kind: the cheapest ones, and of these such with the fewest copies."""

from heapq import heappop, heappush


class Stem:
    """How a cheapest tree begins: its price and number of copies, and the block and the end at its top."""

    def __init__(self, price, many, name, end):
        self.price = price
        self.many = many
        self.name = name
        self.end = end


def partner_kinds(sheet):
    """A dict from all kinds to their partners."""
    return {kind: sheet.partner(kind) for kind in sheet.kinds()}


def _steps_of(sheet):
    """For each end of each block: the block, the end, and the kinds of the tops that its other ends ask for."""
    partners = partner_kinds(sheet)
    steps = []
    for name in sheet:
        asked = [partners[kind] for kind in sheet.ends(name)]
        for end in range(len(asked)):
            steps.append((name, end, asked[:end] + asked[end + 1:]))
    return steps


def cheapest_stems(sheet, prices):
    """A dict from all kinds of which there is a tree with a top to the stem of one.

    Kinds are settled from the cheapest one on: what a stem asks for is settled before it.
    """
    steps = _steps_of(sheet)
    users = {kind: [] for kind in sheet.kinds()}
    open_ends = [len(asked) for _, _, asked in steps]
    costs = [(prices[name], 1) for name, _, _ in steps]
    queue = []
    for at, (name, end, asked) in enumerate(steps):
        for kind in asked:
            users[kind].append(at)
        if not asked:
            heappush(queue, (prices[name], 1, at))
    stems = {}
    while queue:
        price, many, top = heappop(queue)
        name, end, _ = steps[top]
        kind = sheet.ends(name)[end]
        if kind in stems:
            continue
        stems[kind] = Stem(price, many, name, end)
        for at in users[kind]:
            open_ends[at] -= 1
            costs[at] = (costs[at][0] + price, costs[at][1] + many)
            if open_ends[at] == 0:
                heappush(queue, (costs[at][0], costs[at][1], at))
    return stems


def hang_trees(sheet, stems, told, hanging):
    """Hang the trees of stems at some ends of copies: told are the lists of their blocks and links, to be filled."""
    blocks, links = told
    partners = partner_kinds(sheet)
    waiting = list(hanging)
    while waiting:
        place = waiting.pop()
        stem = stems[partners[sheet.ends(blocks[place[0]])[place[1]]]]
        copy = len(blocks)
        blocks.append(stem.name)
        links.append((place, (copy, stem.end)))
        waiting.extend(other_ends(sheet, copy, stem.name, (stem.end,)))


def other_ends(sheet, copy, name, ends):
    """The ends of a copy of a block but some."""
    return [(copy, end) for end in range(len(sheet.ends(name))) if end not in ends]
