"""Plain listing of the chains of families, to hold the answers of the program against."""

from endsmeet.families import family
from endsmeet.misfits import misfit
from endsmeet.reading import read_recipe
from endsmeet.sheets import Sheet
from tests.recipe_support import XYZ, do_meet, number_of_places, placed_blocks, random_recipe, rows, turning
from tests.support import AB, ABC, random_sheet

PR = Sheet({'k': 'k'}, {'p': ('k', 'k'), 'r': ('k', 'k')})
EASY = (
    PR, Sheet({'k': 'k', 'm': 'm'}, {'p': ('k', 'k'), 'q': ('m', 'k'), 'r': ('k', 'm')}),
    Sheet(AB, {'x': ('b', 'a'), 'w': ('b', 'a')}),
)
SHEET = Sheet(AB, dict(XYZ, cap=('a',)))
MIXED = Sheet(ABC, dict(XYZ, own=('c', 'c'), mix=('c', 'a'), cap=('a',), tee=('a', 'b', 'c')))
BAD_FOR_INT = (None, '1', 1.5, True, False, [1], (1,))


def fam(told, sheet=PR):
    return family(sheet, read_recipe(sheet, told))


def row(told, sheet=PR):
    """A list of placed blocks from names with ~ in front of those with the way 1."""
    return [(name.lstrip('~'), 1 if name[0] == '~' else 0) for name in told.split()]


def most_listed(recipe, most=8, bound=2500):
    """Up to how many blocks the rows of a recipe are soon listed."""
    found = 1
    while found < most and number_of_places(recipe) ** (found + 1) <= bound:
        found += 1
    return found


def words_of(sheet, recipe, most):
    """The words of a recipe with at most so many blocks, and their turnings, as tuples."""
    found = {tuple(placed for _, placed in told) for told in rows(sheet, recipe, most)} - {()}
    return found | {tuple(turning(sheet, list(word))) for word in found}


def looped(rnd, sheet, recipe):
    """A recipe with the same loop on either side, so that its family often comes back to its start."""
    loop = random_recipe(rnd, sheet, 2, 2)
    return 'row', (('times', loop, 0, None), recipe, ('times', ('turned', loop), 0, None))


def comes_back(table):
    """Whether an arrow of a least machine leads to its start."""
    return 0 in [other for _, _, other in table[0]]


def words_along(table, most):
    """All words with at most so many signs that a table takes, as tuples."""
    found, now = set(), [((), 0)]
    for _ in range(most + 1):
        found |= {word for word, state in now if state in table[1]}
        now = [(word + (sign,), other) for word, here in now for state, sign, other in table[0] if state == here]
    return found


def random_families(rnd, times, most_blocks=3, most_depth=5, joints=2, most_ends=2):
    """Sheets, recipes that fit, their families, numbers of blocks, and all words with at most so many."""
    while times:
        sheet = random_sheet(rnd, rnd.randint(1, joints), rnd.randint(1, most_blocks), most_ends, 0.5)
        if rnd.random() < 0.5:
            # Of most other sheets few recipes fit but short ones.
            sheet = rnd.choice(EASY)
        if placed_blocks(sheet):
            recipe = random_recipe(rnd, sheet, rnd.randint(1, most_depth))
            if rnd.random() < 0.2:
                recipe = looped(rnd, sheet, recipe)
            if misfit(sheet, recipe) is None:
                most = most_listed(recipe)
                yield sheet, recipe, family(sheet, recipe), most, words_of(sheet, recipe, most)
                times -= 1


def rotations(word):
    return [word[at:] + word[:at] for at in range(len(word))]


def ring_words(sheet, words):
    """All lists that stand for rings of the words that close."""
    closing = [word for word in words if do_meet(sheet, word[-1], word[0])]
    return {other for word in closing for one in (word, tuple(turning(sheet, list(word)))) for other in rotations(one)}


def walk(table, word):
    """Whether a table takes a word."""
    arrows = {(state, sign): other for state, sign, other in table[0]}
    state = 0
    for sign in word:
        state = arrows.get((state, sign))
        if state is None:
            return False
    return state in table[1]


def check_least(test, table):
    """That a table is as point [16] tells, but for the words that it takes."""
    arrows, ends = table
    test.assertIsInstance(table, tuple)
    test.assertIsInstance(arrows, list)
    test.assertIsInstance(ends, list)
    test.assertEqual(arrows, sorted(arrows))
    test.assertEqual(ends, sorted(ends))
    test.assertEqual(len(arrows), len({(state, sign) for state, sign, _ in arrows}))
    met = [0]
    at = 0
    while at < len(met):
        for state, _, other in arrows:
            if state == met[at] and other not in met:
                met.append(other)
        at += 1
    test.assertEqual(met, list(range(len(met))))
    test.assertLessEqual({state for state, _, _ in arrows} | set(ends), set(met))
    # Each state but the start leads to an end, and no two do the same.
    group = {state: state in ends for state in met}
    steps = {state: {} for state in met}
    for state, sign, other in arrows:
        steps[state][sign] = other
    while True:
        told = {state: (group[state], tuple((sign, group[other]) for sign, other in sorted(steps[state].items())))
                for state in met}
        numbers = {thing: number for number, thing in enumerate(sorted(set(map(repr, told.values()))))}
        new = {state: numbers[repr(told[state])] for state in met}
        if len(set(new.values())) == len(set(group.values())):
            break
        group = new
    test.assertEqual(len(set(group.values())), len(met))
    live = set(ends)
    for _ in met:
        live |= {state for state, _, other in arrows if other in live}
    test.assertLessEqual(set(met) - {0}, live)
    test.assertTrue(0 in live or not arrows)
