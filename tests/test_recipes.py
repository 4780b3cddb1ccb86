import unittest

from endsmeet.errors import BadRecipe, BadSheet
from endsmeet.reading import read_recipe
from endsmeet.recipes import is_recipe, write_recipe
from endsmeet.sheets import Sheet
from tests.recipe_support import XYZ, depth, random_recipe, size
from tests.support import AB, ABC, random_sheet, seeded

SHEET = Sheet(ABC, dict(XYZ, cap=('a',), tee=('a', 'b', 'c'), box=('c', 'c', 'c', 'c'), own=('c', 'c')))
X, Y, Z, BACK = ('block', 'x', 0), ('block', 'y', 0), ('block', 'z', 0), ('block', 'x', 1)
NO_RECIPES = (
    None, 5, 'x', [], (), ('x',), ('x', 0), ('block',), ('block', 'x'), ('block', 'x', 2), ('block', 'x', -1),
    ('block', 'x', True), ('block', 'x', False), ('block', 'x', None), ('block', 'x', 0, 0), ['block', 'x', 0],
    ('block', 'y', 1), ('block', 'own', 1), ('block', 'cap', 0), ('block', 'tee', 0), ('block', 'box', 0),
    ('block', 'what', 0), ('block', 5, 0), ('block', ['x'], 0), ('block', ('x', 0)), ('blocks', 'x', 0),
    ('row',), ('row', ()), ('row', (X,)), ('row', [X, X]), ('row', X, X), ('row', (X, X), X), ('row', (X, None)),
    ('row', (X, ('block', 'y', 1))), ('row', 'xx'), ('row', None), ('row', X), ('either', ()), ('either', (X,)),
    ('either', [X, Y]), ('either', X, Y), ('either', (X, 'y')), ('times', X), ('times', X, 0), ('times', X, 0, 0),
    ('times', X, -1, None), ('times', X, 21, None), ('times', X, 0, 21), ('times', X, 3, 2), ('times', X, None, 3),
    ('times', X, True, 3), ('times', X, 0, True), ('times', X, False, None), ('times', X, '0', None),
    ('times', (X, X), 0, None), ('times', None, 0, None), ('times', X, 0, None, 0), ('times', [X], 0, None),
    ('turned',), ('turned', X, X), ('turned', None), ('turned', (X,)), ('turned', ['block', 'x', 0]), (1, X), (None, X),
    (('row',), (X, X)), ('Row', (X, X)), {'row': (X, X)}, ('turned', ('turned', ('block', 'cap', 0))), ('times', X, 1.5, 2),
)


def nested(deep, form='turned'):
    recipe = X
    for _ in range(deep - 1):
        recipe = (form, recipe) if form == 'turned' else (form, recipe, 1, 1)
    return recipe


class IsRecipe(unittest.TestCase):
    def test_ordinary(self):
        for recipe in (
            X, BACK, Y, ('row', (X, Y)), ('either', (X, Y, BACK)), ('times', X, 0, None), ('times', X, 20, 20),
            ('times', X, 0, 1), ('times', X, 20, None), ('times', X, 3, 20), ('turned', X), ('block', 'own', 0),
            ('row', (('row', (X, X)), ('either', (Y, ('times', ('turned', Z), 1, 2))))),
        ):
            self.assertIs(is_recipe(SHEET, recipe), True, recipe)

    def test_no_recipes(self):
        for thing in NO_RECIPES:
            self.assertIs(is_recipe(SHEET, thing), False, thing)
            for other in (('turned', thing), ('row', (X, thing)), ('either', (thing, X)), ('times', thing, 0, 2)):
                self.assertIs(is_recipe(SHEET, other), False, other)

    def test_times(self):
        for low in range(-2, 24):
            for high in [None] + list(range(-2, 24)):
                is_right = 0 <= low <= 20 and (high is None or 1 <= high <= 20 and low <= high)
                self.assertIs(is_recipe(SHEET, ('times', X, low, high)), is_right, (low, high))

    def test_sizes(self):
        ten = ('row', (X,) * 10)
        for recipe in (
            ('row', (X,) * 200), ('either', (X,) * 200), ('times', ten, 0, 20), ('times', ten, 20, 20),
            ('times', ten, 19, None), ('times', ('row', (X,) * 200), 0, None), ('times', ('row', (X,) * 100), 1, None),
            ('times', ('times', ten, 0, 10), 2, 2), ('turned', ('row', (('times', ten, 3, 19), ten))),
            ('times', ('row', (X,) * 200), 1, 1),
        ):
            self.assertEqual(size(recipe), 200)
            self.assertIs(is_recipe(SHEET, recipe), True)
        for recipe in (
            ('row', (X,) * 201), ('either', (X,) * 201), ('row', (('times', ten, 0, 20), X)),
            ('times', ('row', (X,) * 201), 0, 1), ('either', (X, ('times', ten, 19, None))),
            ('turned', ('row', (('times', ten, 3, 19), ten, Y))),
        ):
            self.assertEqual(size(recipe), 201)
            self.assertIs(is_recipe(SHEET, recipe), False)
        self.assertIs(is_recipe(SHEET, ('times', ten, 20, None)), False)
        self.assertIs(is_recipe(SHEET, ('times', ('row', (X,) * 101), 1, None)), False)

    def test_depths(self):
        for form in ('turned', 'times'):
            self.assertEqual(depth(nested(40, form)), 40)
            self.assertIs(is_recipe(SHEET, nested(40, form)), True)
            self.assertIs(is_recipe(SHEET, nested(41, form)), False)
            self.assertIs(is_recipe(SHEET, ('row', (X, nested(39, form)))), True)
            self.assertIs(is_recipe(SHEET, ('either', (nested(40, form), X))), False)
            self.assertIs(is_recipe(SHEET, nested(5000, form)), False)

    def test_too_large_to_be_looked_through(self):
        recipe = X
        for _ in range(39):
            recipe = ('row', (recipe, recipe))
        self.assertIs(is_recipe(SHEET, recipe), False)
        self.assertIs(is_recipe(SHEET, ('row', (recipe,) * 10 ** 6)), False)

    def test_held_against_the_plain_size_and_depth(self):
        rnd = seeded(110)
        seen = {True: 0, False: 0}
        for _ in range(600):
            recipe = random_recipe(rnd, SHEET, rnd.randint(1, 9), rnd.choice((1, 3, 20)))
            is_right = size(recipe) <= 200 and depth(recipe) <= 40
            self.assertIs(is_recipe(SHEET, recipe), is_right)
            seen[is_right] += 1
        self.assertGreater(min(seen.values()), 30)

    def test_bad_sheet(self):
        for ask in (is_recipe, write_recipe):
            for bad in (None, {}, 'sheet'):
                with self.assertRaises(BadSheet):
                    ask(bad, None)


class WriteRecipe(unittest.TestCase):
    def test_forms(self):
        row, either = ('row', (X, Y)), ('either', (X, Y))
        for recipe, told in (
            (X, 'x'), (BACK, '~x'), (row, 'x y'), (either, 'x | y'), (('turned', X), '~(x)'),
            (('turned', BACK), '~(~x)'), (('turned', row), '~(x y)'), (('turned', either), '~(x | y)'),
            (('turned', ('turned', X)), '~(~(x))'), (('turned', ('times', X, 0, None)), '~(x*)'),
            (('times', ('turned', X), 0, None), '~(x)*'), (('times', BACK, 1, None), '~x+'),
            (('times', row, 0, 1), '(x y)?'), (('times', either, 0, 1), '(x | y)?'),
            (('times', ('times', X, 0, None), 1, None), '(x*)+'), (('row', (row, Z)), '(x y) z'),
            (('row', (Z, row, either)), 'z (x y) (x | y)'), (('either', (row, Z)), 'x y | z'),
            (('either', (either, Z)), '(x | y) | z'), (('either', (Z, either)), 'z | (x | y)'),
            (('row', (('times', X, 2, 2), ('turned', Y))), 'x{2} ~(y)'),
            (('either', (('times', X, 2, None), ('turned', Y))), 'x{2..} | ~(y)'),
        ):
            self.assertEqual(write_recipe(SHEET, recipe), told)
            self.assertEqual(read_recipe(SHEET, told), recipe)

    def test_times(self):
        for low in range(21):
            for high in [None] + list(range(max(low, 1), 21)):
                told = write_recipe(SHEET, ('times', X, low, high))
                if high is None:
                    self.assertEqual(told, {0: 'x*', 1: 'x+'}.get(low, 'x{%d..}' % low))
                elif low == high:
                    self.assertEqual(told, 'x{%d}' % low)
                else:
                    self.assertEqual(told, 'x?' if (low, high) == (0, 1) else 'x{%d..%d}' % (low, high))
                self.assertEqual(read_recipe(SHEET, told), ('times', X, low, high))

    def test_read_back(self):
        rnd = seeded(111)
        written = 0
        for _ in range(500):
            sheet = random_sheet(rnd, rnd.randint(1, 2), rnd.randint(1, 4), 2)
            if not [name for name in sheet if len(sheet.ends(name)) == 2]:
                continue
            recipe = random_recipe(rnd, sheet, rnd.randint(1, 6), rnd.choice((1, 3, 20)))
            if is_recipe(sheet, recipe):
                told = write_recipe(sheet, recipe)
                self.assertEqual(read_recipe(sheet, told), recipe)
                written += 1
        self.assertGreater(written, 200)

    def test_deep_and_large(self):
        for recipe in (nested(40), nested(40, 'times'), ('either', (X,) * 200), ('row', (BACK,) * 200)):
            self.assertEqual(read_recipe(SHEET, write_recipe(SHEET, recipe)), recipe)

    def test_errors(self):
        for thing in NO_RECIPES + (nested(41), ('row', (X,) * 201)):
            with self.assertRaises(BadRecipe, msg=thing):
                write_recipe(SHEET, thing)

    def test_other_sheet(self):
        other = Sheet(AB, {'x': ('b', 'b')})
        self.assertIs(is_recipe(other, X), True)
        self.assertIs(is_recipe(other, BACK), False)
        with self.assertRaises(BadRecipe):
            write_recipe(other, Y)
