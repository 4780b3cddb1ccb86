import unittest

from endsmeet.errors import BadBlock, BadSheet
from endsmeet.sheets import Sheet
from endsmeet.supplies import Kept, Supply, supply
from tests.support import AB, ABC, all_amounts, has_piecing, random_sheet, seeded

SHEET = Sheet(ABC, {'two': ('a', 'a'), 'rod': ('a', 'b'), 'tee': ('b', 'c', 'b'), 'cap': ('c', 'a', 'a')})


class Supplies(unittest.TestCase):
    def test_ordinary(self):
        sheet = Sheet(AB, {'two': ('a', 'a'), 'rod': ('a', 'b')})
        found = supply(sheet, 'two')
        self.assertIsInstance(found, Kept)
        self.assertEqual(list(found.weights), ['a', 'b'])
        self.assertTrue(found.shows(sheet, 'two'))
        found = supply(sheet, 'rod')
        self.assertIsInstance(found, Supply)
        self.assertEqual(list(found.amounts), ['rod', 'two'])
        self.assertTrue(found.shows(sheet, 'rod'))

    def test_held_against_plain_counting(self):
        rnd = seeded(20)
        found = {Supply: 0, Kept: 0}
        for _ in range(150):
            sheet = random_sheet(rnd, rnd.randint(1, 3), 4)
            small = [amounts for amounts in all_amounts(sheet.names(), 4) if has_piecing(sheet, amounts)]
            for name in sheet:
                answer = supply(sheet, name)
                self.assertTrue(answer.shows(sheet, name))
                found[answer.__class__] += 1
                if any(amounts[name] for amounts in small):
                    self.assertIsInstance(answer, Supply)
        self.assertGreater(min(found.values()), 50)

    def test_kinds_that_are_their_own_partners(self):
        sheet = Sheet({'c': 'c', 'd': 'd'}, {'cap': ('c',), 'rod': ('c', 'd'), 'box': ('d', 'd', 'd', 'c')})
        for name in sheet:
            found = supply(sheet, name)
            self.assertIsInstance(found, Supply)
            self.assertTrue(found.shows(sheet, name))
            self.assertTrue(has_piecing(sheet, found.amounts))

    def test_great_amounts(self):
        letters = 'abcdefghijklmnopqrstuvwxyz'
        partners = {}
        for letter in letters:
            partners['k' + letter], partners['p' + letter] = 'p' + letter, 'k' + letter
        blocks = {'start': ('ka', 'ka', 'ka'), 'end': ('pz',)}
        for one, two in zip(letters, letters[1:]):
            blocks['x' + one] = ('p' + one, 'k' + two, 'k' + two, 'k' + two)
        sheet = Sheet(partners, blocks)
        found = supply(sheet, 'end')
        self.assertTrue(found.shows(sheet, 'end'))
        self.assertEqual(found.amounts['end'], found.amounts['start'] * 3 ** 26)
        kept = supply(Sheet(partners, {name: ends for name, ends in blocks.items() if name != 'start'}), 'end')
        self.assertIsInstance(kept, Kept)

    def test_many_blocks(self):
        rnd = seeded(21)
        letters = 'abcdefghijklmnopqrstuvwxyz'
        partners = {}
        for letter in letters:
            partners['k' + letter], partners['p' + letter] = 'p' + letter, 'k' + letter
        kinds = sorted(partners)
        for many in (20, 40, 80):
            names = [one + two for one in letters for two in letters][:many]
            sheet = Sheet(partners, {
                name: tuple(rnd.choice(kinds) for _ in range(rnd.randint(1, 4))) for name in names
            })
            for name in names[:4]:
                self.assertTrue(supply(sheet, name).shows(sheet, name))

    def test_rows_that_have_as_much(self):
        # Which of the rows with equal shares gives way decides which evidence is found; it is to stay the same.
        partners = {'a': 'b', 'b': 'a', 'c': 'd', 'd': 'c', 'e': 'f', 'f': 'e', 'g': 'h', 'h': 'g'}
        for blocks, name, weights in (
            (
                {'box': ('a', 'h', 'd'), 'cup': ('e', 'b'), 'hub': ('f',), 'rod': ('h', 'c', 'f')}, 'rod',
                {'a': -1, 'b': 1, 'c': 0, 'd': 0, 'e': -1, 'f': 1, 'g': -1, 'h': 1},
            ),
            (
                {
                    'box': ('b', 'f'), 'cup': ('c', 'd', 'f', 'c'), 'fork': ('f', 'a', 'f', 'h'),
                    'hub': ('g', 'd', 'e'), 'rod': ('d', 'c', 'a'),
                }, 'hub', {'a': 0, 'b': 0, 'c': -1, 'd': 1, 'e': -1, 'f': 1, 'g': 1, 'h': -1},
            ),
        ):
            sheet = Sheet(partners, blocks)
            self.assertEqual(supply(sheet, name), Kept(weights))
            self.assertTrue(Kept(weights).shows(sheet, name))

    def test_supply_shows(self):
        good = {'cap': 0, 'rod': 1, 'tee': 2, 'two': 2}
        self.assertTrue(Supply(good).shows(SHEET, 'rod'))
        self.assertTrue(Supply({'two': 2, 'tee': 2, 'cap': 0, 'rod': 0}).shows(SHEET, 'two'))
        for name, amounts in (
            ('cap', good), ('rod', {}), ('rod', {'cap': 0, 'rod': 1, 'tee': 2}), ('rod', dict(good, bow=0)),
            ('rod', dict(good, tee=1)), ('rod', dict(good, tee=-2, two=-2)), ('rod', dict(good, rod=0)),
            ('rod', {'cap': 0, 'rod': 1, 'tee': 2, 'bow': 2}), ('rod', dict(good, tee=1, two=1)),
            ('rod', dict(good, rod=True)), ('rod', {'cap': 0, 'rod': 1, 'tee': 2, 3: 2}),
        ):
            self.assertIs(Supply(amounts).shows(SHEET, name), False, amounts)
        altered = Supply(good)
        altered.amounts['two'] += 1
        self.assertIs(altered.shows(SHEET, 'rod'), False)

    def test_kept_shows(self):
        sheet = Sheet(ABC, {'two': ('a', 'a'), 'rod': ('a', 'b', 'c')})
        self.assertTrue(Kept({'a': 1, 'b': -1, 'c': 0}).shows(sheet, 'two'))
        self.assertTrue(Kept({'c': 0, 'b': -5, 'a': 5}).shows(sheet, 'two'))
        for name, weights in (
            ('rod', {'a': 1, 'b': -1, 'c': 0}), ('two', {}), ('two', {'a': 1, 'b': -1}),
            ('two', {'a': 1, 'b': -1, 'c': 0, 'd': 0}), ('two', {'a': 1, 'b': -1, 'd': 0}),
            ('two', {'a': 1, 'b': 0, 'c': 0}), ('two', {'a': 1, 'b': -1, 'c': 1}), ('two', {'a': -1, 'b': 1, 'c': 0}),
            ('two', {'a': 0, 'b': 0, 'c': 0}), ('two', {'a': 1, 'b': -1, 'c': False}), ('two', {'a': 1, 'b': -1, 0: 0}),
        ):
            self.assertIs(Kept(weights).shows(sheet, name), False, weights)
        other = Sheet(ABC, {'two': ('a', 'a'), 'rod': ('b', 'b')})
        self.assertIs(Kept({'a': 1, 'b': -1, 'c': 0}).shows(other, 'two'), False)

    def test_equal_and_copied(self):
        for told in (Supply, Kept):
            given = {'a': 1, 'b': 2}
            one = told(given)
            self.assertEqual(one, told({'b': 2, 'a': 1}))
            self.assertNotEqual(one, told({'a': 1, 'b': 3}))
            self.assertNotEqual(one, given)
            given['a'] = 5
            self.assertEqual(one, told({'b': 2, 'a': 1}))
        self.assertNotEqual(Supply({'a': 1}), Kept({'a': 1}))
        one, other = Supply({'a': 1}), Supply({'a': 1})
        other.amounts = {'a': 2}
        self.assertNotEqual(one, other)

    def test_errors(self):
        for ask in (supply, Supply({}).shows, Kept({}).shows):
            for name in ('bow', '', 'a', None, 3, ['rod'], True):
                with self.assertRaises(BadBlock):
                    ask(SHEET, name)
            with self.assertRaises(BadSheet):
                ask(None, 'rod')
