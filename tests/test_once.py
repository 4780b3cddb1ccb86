import unittest

from endsmeet.errors import BadRecipe, BadSheet, Misfitting
from endsmeet.once import Twice, told_twice
from endsmeet.placing import chain_form
from endsmeet.reading import read_recipe
from tests.family_support import PR, SHEET, most_listed, random_families
from tests.recipe_support import number_of_places, rows
from tests.support import seeded
from tests.test_recipes import NO_RECIPES


def tellings(sheet, recipe, most):
    """For each chain with at most so many blocks its rows, shorter chains first."""
    found = {}
    for told in rows(sheet, recipe, most):
        if told:
            form = tuple(chain_form(sheet, [placed for _, placed in told]))
            found.setdefault(form, []).append([place for place, _ in told])
    return sorted(found.items(), key=lambda entry: len(entry[0]))


class ToldTwice(unittest.TestCase):
    def ask(self, told, sheet=PR):
        recipe = read_recipe(sheet, told)
        found = told_twice(sheet, recipe)
        if found is None:
            return None
        self.assertIs(found.shows(sheet, recipe), True)
        return sorted([found.one_row, found.other_row])

    def test_ordinary(self):
        self.assertEqual(self.ask('z y | y z', SHEET), [[0, 1], [2, 3]])
        self.assertEqual(self.ask('p | p'), [[0], [1]])
        self.assertEqual(self.ask('p | r'), None)
        self.assertEqual(self.ask('p*'), None)
        self.assertEqual(self.ask('p* p*'), [[0], [1]])
        self.assertEqual(self.ask('p+ p+'), [[0, 0, 1], [0, 1, 1]])
        self.assertEqual(self.ask('p r | r p'), [[0, 1], [2, 3]])
        self.assertEqual(self.ask('p r'), None)
        self.assertEqual(self.ask('x | ~x', SHEET), [[0], [1]])
        self.assertEqual(self.ask('x', SHEET), None)
        self.assertEqual(self.ask('(p | p p){2}'), [[0, 1, 2], [1, 2, 0]])

    def test_one_row_by_several_ways_is_one_row(self):
        for told in ('(p?){2}', '(p*)*', 'p{0..20}', '(p*){7}', '((p r)?){3}', '(p{1..3})*', '(x?)* ', '(p*)+ r'):
            sheet = SHEET if 'x' in told else PR
            self.assertEqual(self.ask(told, sheet), None)

    def test_chains_that_are_their_own_turnings(self):
        # One row read backwards is no second row.
        for told in ('p r p', 'p{5}', '(p r)* p'):
            self.assertEqual(self.ask(told), None)
        self.assertEqual(self.ask('y (~x)* z x* y', SHEET), [[0, 1, 2, 4], [0, 2, 3, 4]])
        self.assertEqual(self.ask('y (~x){3} z x{3} y', SHEET), None)
        self.assertEqual(self.ask('p r p | p r p'), [[0, 1, 2], [3, 4, 5]])
        self.assertEqual(self.ask('(y ~x+ | y) (z | z)', SHEET), [[2, 3], [2, 4]])

    def test_turnings_alone(self):
        self.assertEqual(self.ask('z x* y', SHEET), None)
        self.assertEqual(self.ask('z x{3} y | y (~x){2..4} z', SHEET), [[0, 1, 1, 1, 2], [3, 4, 4, 4, 5]])
        self.assertEqual(self.ask('(p | r){2}'), [[0, 1], [1, 0]])
        # Turnings of one part: the first words that are not their own turnings have three blocks of the one kind.
        self.assertEqual(self.ask('p{3} r p{3} | p r p | p p r p p'), None)
        self.assertEqual(self.ask('p* r p*'), [[0, 1], [1, 2]])
        self.assertEqual(self.ask('p{5} r p{7} | p{7} r p{5}'), [[0] * 5 + [1] + [2] * 7, [3] * 7 + [4] + [5] * 5])
        self.assertEqual(self.ask('(p p)* (r r r) | p{4}'), None)
        self.assertEqual(self.ask('p{20} p p | (p{11})+')[0], [0] * 20 + [1, 2])

    def test_shortest_of_several(self):
        # Words told twice, and pairs of words that are told once each, but turn into one another.
        for same in range(1, 8):
            for apart in range(2, 8):
                for at in range(apart // 2):
                    word = ['p'] * at + ['r'] + ['p'] * (apart - 1 - at)
                    pair = ' '.join(word) + ' | ' + ' '.join(word[::-1])
                    found = self.ask('p{%d} | p{%d} | %s' % (same, same, pair))
                    self.assertEqual(len(found[0]), min(same, apart))
        for one in range(2, 8):
            for other in range(2, 8):
                for at in range(one // 2):
                    for there in range(other // 2):
                        first = ['p'] * at + ['r'] + ['p'] * (one - 1 - at)
                        second = ['r'] * there + ['p'] + ['r'] * (other - 1 - there)
                        told = [' '.join(word) for word in (first, first[::-1], second, second[::-1])]
                        self.assertEqual(len(self.ask(' | '.join(told))[0]), min(one, other))

    def test_far_from_the_ends(self):
        # The words differ from their turnings in their middles alone.
        self.assertEqual(self.ask('(p{20}){2} r p (p{20}){2} | (p{20}){2} p r (p{20}){2}'), [
            [0] * 40 + [1, 2] + [3] * 40, [4] * 40 + [5, 6] + [7] * 40,
        ])
        self.assertEqual(self.ask('(p{20}){4} r r (p{20}){4}'), None)
        self.assertEqual(self.ask('y ((~x){20}){3} z (x{20}){3} y', SHEET), None)

    def test_long_chains(self):
        self.assertEqual(len(self.ask('(p{9})+ | (p{10})+')[0]), 90)
        self.assertEqual(len(self.ask('(p{13})+ r | r (p{16})+')[0]), 13 * 16 + 1)
        self.assertEqual(self.ask('(p{2})+ | (p{2})* p'), None)
        # One row with six blocks behind the r, and one with six in front of it.
        self.assertEqual(self.ask('(p p)* r (p p p)*'), [[0, 1] * 3 + [2], [2] + [3, 4, 5] * 2])
        # Of 9, 21, 33 .. blocks on either side the words with as many on both are their own turnings.
        self.assertEqual(len(self.ask('(p{4})* p r (p{3})*')[0]), 9 + 1 + 21)
        self.assertEqual(len(self.ask('((p{20}){2})* r | r ((p{7}){7})*')[0]), 1)
        self.assertEqual(len(self.ask('((p{20}){2})+ r | r ((p{7}){7})+')[0]), 1961)
        self.assertEqual(len(self.ask('(p | r){20} p{2} r')[0]), 23)

    def test_held_against_plain_listing(self):
        seen = {True: 0, False: 0}
        for sheet, recipe, _, most, _ in random_families(seeded(170), 700, 3, 5):
            told = tellings(sheet, recipe, most)
            plain = [entry for entry in told if len(entry[1]) > 1]
            found = told_twice(sheet, recipe)
            if found is not None:
                self.assertIs(found.shows(sheet, recipe), True)
            if not plain:
                self.assertTrue(found is None or len(found.one_row) > most)
            else:
                least = len(plain[0][0])
                self.assertEqual(len(found.one_row), least)
                pairs = [
                    (one, other) for form, several in plain if len(form) == least
                    for one in several for other in several if one != other
                ]
                self.assertIn((found.one_row, found.other_row), pairs)
                for one, other in pairs[:10]:
                    self.assertIs(Twice(one, other).shows(sheet, recipe), True)
                    self.assertIs(Twice(one, one).shows(sheet, recipe), False)
                for form, several in plain:
                    if len(form) > least:
                        self.assertIs(Twice(several[0], several[1]).shows(sheet, recipe), False)
                        break
            seen[found is None] += 1
        self.assertGreater(min(seen.values()), 60)

    def test_rows_of_two_chains(self):
        rnd = seeded(171)
        for sheet, recipe, _, most, _ in random_families(rnd, 100):
            told = tellings(sheet, recipe, min(most, 4))
            if told_twice(sheet, recipe) is None:
                for form, several in told[:6]:
                    for other_form, others in told[:6]:
                        self.assertIs(Twice(several[0], others[0]).shows(sheet, recipe), False)

    def test_large_recipes(self):
        self.assertEqual(self.ask(' | '.join(['p'] * 200)), [[0], [1]])
        self.assertEqual(self.ask('(' + ' | '.join(['p'] * 99 + ['r']) + ')*'), [[0], [1]])
        self.assertEqual(self.ask('((p r{0..3}){5}){8} r{20} r{20}'), None)
        self.assertEqual(number_of_places(read_recipe(PR, 'p' + ' p' * 199)), 200)
        self.assertEqual(self.ask('p' + ' p' * 199), None)


class Evidence(unittest.TestCase):
    recipe = read_recipe(SHEET, 'z y | y z | x+')

    def test_altered(self):
        self.assertIs(Twice([0, 1], [2, 3]).shows(SHEET, self.recipe), True)
        self.assertIs(Twice([2, 3], [0, 1]).shows(SHEET, self.recipe), True)
        for one, other in (
            ([], []), ([0, 1], []), ([], [2, 3]), ([0], [2]), ([0, 1], [0, 1]), ([0, 1], [3, 2]), ([1, 0], [2, 3]),
            ([0, 1], [2, 3, 3]), ([0, 1, 1], [2, 3]), ([4], [4]), ([4, 4], [4, 4]), ([0, 1], [4, 4]), ([0, 5], [2, 3]),
            ([-1, 1], [2, 3]), ([0, 10 ** 30], [2, 3]), ([0, -5], [-2, 3]), ([2, 3], [2, 3]), ([0, 3], [2, 1]),
        ):
            self.assertIs(Twice(one, other).shows(SHEET, self.recipe), False, (one, other))
        found = told_twice(SHEET, self.recipe)
        found.one_row = found.one_row[::-1]
        self.assertIs(found.shows(SHEET, self.recipe), False)
        found.one_row = found.one_row[::-1]
        self.assertIs(found.shows(SHEET, self.recipe), True)
        found.other_row.append(0)
        self.assertIs(found.shows(SHEET, self.recipe), False)

    def test_told_once(self):
        for told in ('x', 'z y', 'x* y'):
            recipe = read_recipe(SHEET, told)
            for one, other in (([0], [0]), ([0], [1]), ([0, 1], [1, 0]), ([], [])):
                self.assertIs(Twice(one, other).shows(SHEET, recipe), False)

    def test_longer_chains_than_needed(self):
        recipe = read_recipe(PR, 'p+ | p+')
        self.assertIs(Twice([0], [1]).shows(PR, recipe), True)
        self.assertIs(Twice([0, 0], [1, 1]).shows(PR, recipe), False)

    def test_equal_and_copied(self):
        rows_told = [0, 1]
        one = Twice(tuple(rows_told), (2, 3))
        other = Twice(rows_told, [2, 3])
        self.assertIsInstance(one.one_row, list)
        self.assertIsInstance(one.other_row, list)
        rows_told.clear()
        self.assertEqual(one, other)
        for unlike in (Twice([2, 3], [0, 1]), Twice([0, 1], []), Twice([], [2, 3]), None, ([0, 1], [2, 3])):
            self.assertNotEqual(one, unlike)
        other.other_row.append(1)
        self.assertNotEqual(one, other)


class Arguments(unittest.TestCase):
    def test_errors_in_order(self):
        for ask in (told_twice, Twice([0], [1]).shows):
            for bad in (None, {}, 'sheet'):
                with self.assertRaises(BadSheet):
                    ask(bad, None)
            for bad in NO_RECIPES:
                with self.assertRaises(BadRecipe, msg=bad):
                    ask(SHEET, bad)
            for told in ('x y y', 'y*', 'x* ~x'):
                with self.assertRaises(Misfitting):
                    ask(SHEET, read_recipe(SHEET, told))
