"""Plain counting and plain search, to hold the answers of the program against."""

import itertools
import math
import random

from endsmeet.pieces import Piece
from endsmeet.sheets import Sheet

AB = {'a': 'b', 'b': 'a'}
ABC = {'a': 'b', 'b': 'a', 'c': 'c'}


def copies(sheet, amounts):
    return [name for name in sorted(amounts) for _ in range(amounts[name])]


def ends_of(sheet, blocks):
    return [((copy, end), kind) for copy, name in enumerate(blocks) for end, kind in enumerate(sheet.ends(name))]


def piecings(sheet, amounts):
    """All whole piecings of amounts, as ascending lists of links."""

    def rest(ends):
        if not ends:
            yield []
            return
        (place, kind), others = ends[0], ends[1:]
        for at, (other, there) in enumerate(others):
            if sheet.partner(kind) == there:
                for links in rest(others[:at] + others[at + 1:]):
                    yield [(place, other)] + links

    for links in rest(ends_of(sheet, copies(sheet, amounts))):
        yield sorted(links)


def parts(many, links):
    """The parts of copies that are connected, as sorted lists, by their least copies."""
    group = list(range(many))
    for (one, _), (other, _) in links:
        old, new = group[one], group[other]
        group = [new if at == old else at for at in group]
    found = {}
    for copy in range(many):
        found.setdefault(group[copy], []).append(copy)
    return sorted(found.values())


def all_amounts(names, most):
    """All amounts of names with at most so many of each."""
    for many in itertools.product(range(most + 1), repeat=len(names)):
        yield dict(zip(names, many))


def has_piecing(sheet, amounts):
    many = {kind: 0 for kind in sheet.kinds()}
    for name, number in amounts.items():
        for kind in sheet.ends(name):
            many[kind] += number
    return all(
        many[kind] % 2 == 0 if sheet.partner(kind) == kind else many[kind] == many[sheet.partner(kind)]
        for kind in many
    )


def fraction(above, below):
    common = math.gcd(above, below)
    return above // common, below // common


def maps(sheet, one, other):
    """All maps of copies and ends of one piece onto those of another one, as pairs."""
    if sorted(one.blocks) != sorted(other.blocks) or len(one.links) != len(other.links):
        return
    for images in itertools.permutations(range(len(one))):
        if any(other.blocks[image] != name for image, name in zip(images, one.blocks)):
            continue
        orders = []
        for name in one.blocks:
            ends = sheet.ends(name)
            orders.append([
                order for order in itertools.permutations(range(len(ends)))
                if all(ends[order[at]] == ends[at] for at in range(len(ends)))
            ])
        for turned in itertools.product(*orders):
            links = sorted(
                tuple(sorted((images[copy], turned[copy][end]) for copy, end in link)) for link in one.links
            )
            if links == list(other.links):
                yield list(images), list(turned)


def are_same(sheet, one, other):
    return next(maps(sheet, one, other), None) is not None


def random_sheet(rnd, joints=2, blocks=3, most_ends=4, own=0.3):
    partners = {}
    letters = list('abcdefgh')
    for _ in range(joints):
        kind = letters.pop(0)
        if rnd.random() < own:
            partners[kind] = kind
        else:
            other = letters.pop(0)
            partners[kind], partners[other] = other, kind
    kinds = sorted(partners)
    names = ['rod', 'hub', 'cup', 'box', 'fork', 'tee'][:blocks]
    return Sheet(partners, {
        name: tuple(rnd.choice(kinds) for _ in range(rnd.randint(1, most_ends))) for name in names
    })


def random_piece(rnd, sheet, many, more_links=2):
    """A piece of a sheet with at most so many copies."""
    blocks = [rnd.choice(sheet.names())]
    links = []
    while len(blocks) < many:
        taken = {place for link in links for place in link}
        free = [(place, kind) for place, kind in ends_of(sheet, blocks) if place not in taken]
        choices = [
            (place, name, end) for place, kind in free for name in sheet
            for end, there in enumerate(sheet.ends(name)) if sheet.partner(kind) == there
        ]
        if not choices:
            break
        place, name, end = rnd.choice(choices)
        links.append((place, (len(blocks), end)))
        blocks.append(name)
    for _ in range(rnd.randint(0, more_links)):
        taken = {place for link in links for place in link}
        free = [(place, kind) for place, kind in ends_of(sheet, blocks) if place not in taken]
        pairs = [
            (one, two) for (one, kind), (two, there) in itertools.combinations(free, 2)
            if sheet.partner(kind) == there
        ]
        if pairs:
            links.append(rnd.choice(pairs))
    return Piece(blocks, sorted(links))


def turned_piece(rnd, sheet, piece):
    """The same piece with other numbers of copies, and ends of one kind exchanged."""
    images = list(range(len(piece)))
    rnd.shuffle(images)
    orders = []
    for name in piece.blocks:
        ends = sheet.ends(name)
        order = list(range(len(ends)))
        for kind in sorted(set(ends)):
            places = [at for at in range(len(ends)) if ends[at] == kind]
            mixed = list(places)
            rnd.shuffle(mixed)
            for place, other in zip(places, mixed):
                order[place] = other
        orders.append(order)
    blocks = [None] * len(piece)
    for copy, name in enumerate(piece.blocks):
        blocks[images[copy]] = name
    links = sorted(
        tuple(sorted((images[copy], orders[copy][end]) for copy, end in link)) for link in piece.links
    )
    return Piece(blocks, links)


def graph(name, many, edges):
    """A piece of copies of one block, whose ends are linked in the order of some pairs of copies."""
    used = [0] * many
    links = []
    for pair in edges:
        link = []
        for copy in pair:
            link.append((copy, used[copy]))
            used[copy] += 1
        links.append(tuple(sorted(link)))
    return Piece([name] * many, sorted(links))


def ring(name, many, left=0, right=1):
    """A ring of copies of one block."""
    return Piece([name] * many, sorted(
        tuple(sorted([(copy, right), ((copy + 1) % many, left)])) for copy in range(many)
    ))


def cheapest_trees(sheet, prices, most):
    """For each kind the least pairs of price and number of copies of trees with this top, by plain rounds."""
    best = {}
    for _ in range(most):
        for name in sheet:
            ends = sheet.ends(name)
            for end, kind in enumerate(ends):
                asked = [sheet.partner(other) for at, other in enumerate(ends) if at != end]
                if all(other in best for other in asked):
                    cost = (
                        prices[name] + sum(best[other][0] for other in asked),
                        1 + sum(best[other][1] for other in asked),
                    )
                    if kind not in best or cost < best[kind]:
                        best[kind] = cost
    return best


def seeded(number):
    return random.Random(number)
