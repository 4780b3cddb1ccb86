import unittest

from endsmeet.errors import BadRecipe, BadSheet
from endsmeet.misfits import Misfit, misfit
from endsmeet.reading import read_recipe
from endsmeet.recipes import is_recipe
from endsmeet.sheets import Sheet
from tests.recipe_support import XYZ, do_meet, number_of_places, random_recipe, rows, size
from tests.support import AB, random_sheet, seeded
from tests.test_recipes import NO_RECIPES

SHEET = Sheet(AB, dict(XYZ, cap=('a',)))


def plain_misfit(sheet, recipe, most):
    """The first pair of neighbours that do not fit, the length of a shortest word with them, and all such words with
    the positions, by plain listing of the rows with at most so many places."""
    found = {}
    for row in rows(sheet, recipe, most):
        for at in range(len(row) - 1):
            (one, left), (other, right) = row[at:at + 2]
            if not do_meet(sheet, left, right):
                found.setdefault((one, other), set()).add((len(row), tuple(placed for _, placed in row), at))
    if not found:
        return None
    pair = min(found)
    least = min(found[pair])[0]
    return pair, {(told, at) for many, told, at in found[pair] if many == least}


class Misfits(unittest.TestCase):
    def ask(self, told):
        recipe = read_recipe(SHEET, told)
        found = misfit(SHEET, recipe)
        if found is None:
            return None
        self.assertIs(found.shows(SHEET, recipe), True)
        return found.pair, found.told, found.at

    def test_ordinary(self):
        self.assertEqual(self.ask('x* y x'), ((1, 2), [('y', 0), ('x', 0)], 0))
        self.assertEqual(self.ask('x x y'), None)
        self.assertEqual(self.ask('x y y'), ((1, 2), [('x', 0), ('y', 0), ('y', 0)], 1))
        self.assertEqual(self.ask('x'), None)
        self.assertEqual(self.ask('y*'), ((0, 0), [('y', 0), ('y', 0)], 0))
        self.assertEqual(self.ask('y?'), None)
        self.assertEqual(self.ask('y{1}'), None)
        self.assertEqual(self.ask('y{0..2}'), ((0, 0), [('y', 0)] * 2, 0))
        self.assertEqual(self.ask('y{5}'), ((0, 0), [('y', 0)] * 5, 0))
        self.assertEqual(self.ask('y{5..9}'), ((0, 0), [('y', 0)] * 5, 0))
        self.assertEqual(self.ask('y{20..}'), ((0, 0), [('y', 0)] * 20, 0))

    def test_turned(self):
        self.assertEqual(self.ask('~(x y)'), None)
        self.assertEqual(self.ask('~(y x)'), ((1, 0), [('x', 1), ('y', 0)], 0))
        self.assertEqual(self.ask('~(x y) x'), ((0, 2), [('y', 0), ('x', 1), ('x', 0)], 1))
        self.assertEqual(self.ask('~(~(x y)) ~x'), None)
        self.assertEqual(self.ask('~(x ~(z y)) y'), ((0, 3), [('z', 0), ('y', 0), ('x', 1), ('y', 0)], 2))
        self.assertEqual(self.ask('~(x* z)'), ((1, 0), [('z', 0), ('x', 1)], 0))

    def test_first_pair(self):
        # Pairs ascend by the first text place, then by the second one.
        self.assertEqual(self.ask('x (z | y z | x) y')[0], (0, 1))
        self.assertEqual(self.ask('y x? z? y')[0], (0, 1))
        self.assertEqual(self.ask('z (y x | z)*')[0], (0, 3))
        self.assertEqual(self.ask('y* | x z'), ((0, 0), [('y', 0), ('y', 0)], 0))

    def test_shortest_word(self):
        self.assertEqual(self.ask('x{3} (y | x{2} y{2})')[1], [('x', 0)] * 5 + [('y', 0)] * 2)
        self.assertEqual(self.ask('(x x x | x) y (y | x) (~x)*'), ((4, 5), [('x', 0), ('y', 0), ('y', 0)], 1))
        found = self.ask('(x{4} | x) y (y ~x{3} | y)')
        self.assertEqual(found, ((2, 3), [('x', 0), ('y', 0), ('y', 0)] + [('x', 1)] * 3, 1))

    def test_held_against_plain_listing(self):
        rnd = seeded(130)
        seen = {True: 0, False: 0}
        while min(seen.values()) < 150:
            sheet = random_sheet(rnd, rnd.randint(1, 2), rnd.randint(1, 3), 2, 0.5)
            if not [name for name in sheet if len(sheet.ends(name)) == 2]:
                continue
            recipe = random_recipe(rnd, sheet, rnd.randint(1, 5))
            # A shortest word with two neighbours has at most as many blocks on either side as the size tells.
            most = 2 * size(recipe)
            if number_of_places(recipe) ** most > 70000:
                continue
            plain = plain_misfit(sheet, recipe, most)
            found = misfit(sheet, recipe)
            if plain is None:
                self.assertIsNone(found)
                self.assertIs(Misfit((0, 0), [], 0).shows(sheet, recipe), False)
            else:
                self.assertEqual(found.pair, plain[0])
                self.assertIn((tuple(found.told), found.at), plain[1])
                for told, at in plain[1]:
                    self.assertIs(Misfit(plain[0], told, at).shows(sheet, recipe), True)
                self.alter(sheet, recipe, plain)
            seen[found is None] += 1

    def alter(self, sheet, recipe, plain):
        pair, words = plain
        told, at = min(words)
        for other in range(-2, len(told) + 2):
            self.assertIs(Misfit(pair, told, other).shows(sheet, recipe), (told, other) in words)
        for one in range(4):
            for other in range(4):
                shown = Misfit((one, other), told, at).shows(sheet, recipe)
                self.assertIs(shown, (one, other) == pair)
        for place, (name, way) in enumerate(told):
            self.assertIs(Misfit(pair, told[:place] + told[place + 1:], at).shows(sheet, recipe), False)
            self.assertIs(Misfit(pair, told[:place] + told[place:place + 1] + told[place:], at).shows(sheet, recipe), False)
            changed = told[:place] + ((name, 1 - way),) + told[place + 1:]
            self.assertIs(Misfit(pair, changed, at).shows(sheet, recipe), (changed, at) in words)

    def test_large_recipes(self):
        row = ('row', (('block', 'x', 0),) * 199 + (('block', 'z', 0),))
        found = misfit(SHEET, row)
        self.assertEqual((found.pair, found.at, len(found.told)), ((198, 199), 198, 200))
        self.assertTrue(found.shows(SHEET, row))
        inner = ('times', ('either', (('block', 'x', 0),) * 9 + (('block', 'y', 0),)), 0, 20)
        found = misfit(SHEET, inner)
        self.assertEqual((found.pair, found.told, found.at), ((9, 0), [('y', 0), ('x', 0)], 0))
        self.assertTrue(found.shows(SHEET, inner))
        deep = ('block', 'y', 0)
        for _ in range(19):
            deep = ('turned', ('times', deep, 0, None))
        found = misfit(SHEET, deep)
        self.assertEqual((found.pair, len(found.told)), ((0, 0), 2))
        self.assertTrue(found.shows(SHEET, deep))


class Evidence(unittest.TestCase):
    recipe = read_recipe(SHEET, 'x* y x | z{2..}')
    told = [('y', 0), ('x', 0)]

    def test_altered(self):
        self.assertIs(Misfit((1, 2), self.told, 0).shows(SHEET, self.recipe), True)
        for pair, told, at in (
            ((1, 2), self.told, 1), ((1, 2), self.told, -1), ((1, 2), self.told, 10 ** 30), ((1, 2), [], 0),
            ((1, 2), self.told[:1], 0), ((1, 2), [('x', 0)] + self.told, 1), ((1, 2), self.told * 2, 0),
            ((1, 2), self.told[::-1], 0), ((2, 1), self.told, 0), ((3, 3), [('z', 0)] * 2, 0), ((0, 0), self.told, 0),
            ((-1, 2), self.told, 0), ((1, 10 ** 30), self.told, 0), ((1, 2), [('y', 0), ('x', 1)], 0),
            ((1, 2), [('y', 1), ('x', 0)], 0), ((1, 2), [('cap', 0), ('what', 5)], 0),
            ((1, 2), self.told, False), ((1, 2), [('y', False), ('x', 0)], 0), ([1, 2], self.told, 0),
        ):
            self.assertIs(Misfit(pair, told, at).shows(SHEET, self.recipe), False, (pair, told, at))
        altered = misfit(SHEET, self.recipe)
        altered.at = 1
        self.assertIs(altered.shows(SHEET, self.recipe), False)
        altered.at = 0
        self.assertIs(altered.shows(SHEET, self.recipe), True)
        altered.told.append(('x', 0))
        self.assertIs(altered.shows(SHEET, self.recipe), False)

    def test_no_misfits(self):
        for told in ('x', 'x* y', 'y | z'):
            self.assertIs(Misfit((1, 2), self.told, 0).shows(SHEET, read_recipe(SHEET, told)), False)

    def test_equal_and_copied(self):
        told = list(self.told)
        one = Misfit((1, 2), tuple(told), 0)
        self.assertEqual(one.told, told)
        self.assertIsInstance(one.told, list)
        self.assertEqual(one, Misfit((1, 2), told, 0))
        other = Misfit((1, 2), told, 0)
        told.clear()
        self.assertEqual(one, other)
        for unlike in (
            Misfit((1, 1), self.told, 0), Misfit((1, 2), self.told[:1], 0), Misfit((1, 2), self.told, 1), None, (1, 2),
        ):
            self.assertNotEqual(one, unlike)
        other.pair = (0, 0)
        self.assertNotEqual(one, other)


class Arguments(unittest.TestCase):
    def test_errors(self):
        for ask in (misfit, Misfit((0, 1), [], 0).shows):
            for bad in NO_RECIPES:
                self.assertFalse(is_recipe(SHEET, bad))
                with self.assertRaises(BadRecipe, msg=bad):
                    ask(SHEET, bad)
                with self.assertRaises(BadSheet):
                    ask(None, bad)
