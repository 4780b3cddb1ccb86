"""Plain listing of the words and rows of recipes, to hold the answers of the program against."""

from endsmeet.pieces import Piece

XYZ = {'x': ('b', 'a'), 'y': ('b', 'b'), 'z': ('a', 'a')}


def placed_blocks(sheet):
    """All placed blocks of a sheet, in order."""
    found = []
    for name in sheet:
        ends = sheet.ends(name)
        if len(ends) == 2:
            found.extend((name, way) for way in ((0, 1) if ends[0] != ends[1] else (0,)))
    return found


def other_way(sheet, placed):
    ends = sheet.ends(placed[0])
    return placed if ends[0] == ends[1] else (placed[0], 1 - placed[1])


def left(sheet, placed):
    return sheet.ends(placed[0])[placed[1]]


def right(sheet, placed):
    return sheet.ends(placed[0])[1 - placed[1]]


def do_meet(sheet, one, other):
    return sheet.partner(right(sheet, one)) == left(sheet, other)


def all_chains(sheet, most):
    """All chains of a sheet with at most so many blocks."""
    found = []
    chains = [[placed] for placed in placed_blocks(sheet)]
    for _ in range(most):
        found.extend(chains)
        chains = [chain + [placed] for chain in chains for placed in placed_blocks(sheet)
                  if do_meet(sheet, chain[-1], placed)]
    return found


def turning(sheet, row):
    return [other_way(sheet, placed) for placed in reversed(row)]


def chain_piece(chain, is_ring):
    """The piece for which a chain stands, or its ring."""
    links = [
        tuple(sorted([(at, 1 - chain[at][1]), (at + 1, chain[at + 1][1])])) for at in range(len(chain) - 1)
    ]
    if is_ring:
        links.append(tuple(sorted([(len(chain) - 1, 1 - chain[-1][1]), (0, chain[0][1])])))
    return Piece([name for name, _ in chain], sorted(links))


def number_of_places(recipe):
    if recipe[0] == 'block':
        return 1
    inner = recipe[1] if recipe[0] in ('row', 'either') else recipe[1:2]
    return sum(number_of_places(part) for part in inner)


def size(recipe):
    if recipe[0] == 'block':
        return 1
    if recipe[0] == 'times':
        return size(recipe[1]) * (recipe[2] + 1 if recipe[3] is None else recipe[3])
    return sum(size(part) for part in (recipe[1:2] if recipe[0] == 'turned' else recipe[1]))


def depth(recipe):
    if recipe[0] == 'block':
        return 1
    return 1 + max(depth(part) for part in (recipe[1:2] if recipe[0] in ('turned', 'times') else recipe[1]))


def rows(sheet, recipe, most, start=0):
    """All rows with at most so many places, as tuples of pairs of a text place and a placed block."""
    form = recipe[0]
    if form == 'block':
        return {((start, recipe[1:]),)} if most else set()
    if form == 'turned':
        return {
            tuple((place, other_way(sheet, placed)) for place, placed in reversed(row))
            for row in rows(sheet, recipe[1], most, start)
        }
    if form in ('row', 'either'):
        found = {()} if form == 'row' else set()
        for part in recipe[1]:
            own = rows(sheet, part, most, start)
            start += number_of_places(part)
            found = behind(found, own, most) if form == 'row' else found | own
        return found
    own = rows(sheet, recipe[1], most, start)
    found, now = set(), {()}
    last = recipe[2] + most + 1 if recipe[3] is None else recipe[3]
    for times in range(last + 1):
        if times >= recipe[2]:
            found |= now
        now = behind(now, own, most)
    return found


def behind(some, others, most):
    return {one + other for one in some for other in others if len(one) + len(other) <= most}


def random_recipe(rnd, sheet, most_depth, most_times=3):
    """A recipe of linear blocks of a sheet, not deeper than told."""
    if most_depth == 1 or rnd.random() < 0.25:
        return ('block',) + rnd.choice(placed_blocks(sheet))
    form = rnd.choice(('row', 'row', 'either', 'times', 'turned'))
    if form in ('row', 'either'):
        return form, tuple(random_recipe(rnd, sheet, most_depth - 1, most_times) for _ in range(rnd.randint(2, 3)))
    inner = random_recipe(rnd, sheet, most_depth - 1, most_times)
    if form == 'turned':
        return form, inner
    low = rnd.randint(0, most_times)
    return form, inner, low, rnd.choice((None, rnd.randint(max(low, 1), most_times)))
