import itertools
import unittest

from endsmeet.errors import BadAmounts, TooLarge
from endsmeet.sheets import Sheet
from endsmeet.stocks import chain_of_amounts, least_amounts
from tests.family_support import MIXED, PR, fam, random_families, row
from tests.recipe_support import placed_blocks
from tests.support import AB, seeded

MANY = Sheet({'k': 'k'}, {name: ('k', 'k') for name in 'pqrst'})
BAD_AMOUNTS = (
    None, [], 5, (), 'amounts', {'what': 1}, {'x': -1}, {'x': None}, {'x': True}, {'x': '1'}, {'x': 1.0}, {5: 1},
    {('x', 0): 1}, {'x': 1, 'what': 0}, [('x', 1)],
)


def amounts_of(word, names):
    return tuple(sum(1 for name, _ in word if name == one) for one in names)


def is_within(one, other):
    return all(here <= there for here, there in zip(one, other))


class LeastAmounts(unittest.TestCase):
    def ask(self, told, sheet=PR):
        some = fam(told, sheet)
        return [tuple(amounts.values()) for amounts in least_amounts(some)]

    def test_ordinary(self):
        self.assertEqual(least_amounts(fam('p p r* | r{3}')), [{'p': 0, 'r': 3}, {'p': 2, 'r': 0}])
        self.assertEqual(self.ask('(p | r){3}'), [(0, 3), (1, 2), (2, 1), (3, 0)])
        self.assertEqual(self.ask('p+ r+'), [(1, 1)])
        self.assertEqual(self.ask('p{5} r | p{2} r{2} | p{2} r{3} | p{20} r{0..1}'), [(2, 2), (5, 1), (20, 0)])
        self.assertEqual(self.ask('p{20} (p{20} | r)'), [(20, 1), (40, 0)])
        self.assertEqual(least_amounts(fam('p').both(fam('r'))), [])

    def test_all_linear_blocks_and_no_others(self):
        self.assertEqual(least_amounts(fam('own mix', MIXED)), [{'mix': 1, 'own': 1, 'x': 0, 'y': 0, 'z': 0}])
        self.assertEqual(list(least_amounts(fam('z x{3} y', MIXED))[0]), ['mix', 'own', 'x', 'y', 'z'])

    def test_order_and_new_dicts(self):
        found = least_amounts(fam('(p | r){2}'))
        self.assertEqual(found, [{'p': 0, 'r': 2}, {'p': 1, 'r': 1}, {'p': 2, 'r': 0}])
        found[0]['p'] = 7
        found.clear()
        self.assertEqual(len(least_amounts(fam('(p | r){2}'))), 3)

    def test_200_and_more(self):
        self.assertEqual(len(self.ask('(p | q | r){18} | (s | t){9}', MANY)), 190 + 10)
        with self.assertRaises(TooLarge):
            self.ask('(p | q | r){18} | (s | t){10}', MANY)
        with self.assertRaises(TooLarge):
            self.ask('(p | q | r | s){9}', MANY)
        self.assertEqual(len(self.ask('(p | q | r | s){8}', MANY)), 165)
        self.assertEqual(len(self.ask('((p | r){20}){5}')), 101)

    def test_many_amounts_on_the_way(self):
        # Most amounts of rows to states in the middle come to nothing.
        self.assertEqual(self.ask('(p | q | r | s){20} t | p | q | r | s{2}', MANY), [
            (0, 0, 0, 2, 0), (0, 0, 1, 0, 0), (0, 1, 0, 0, 0), (1, 0, 0, 0, 0),
        ])
        self.assertEqual(self.ask('(p | q | r | s){20} (p q r s){5} | p{5} q{5} r{5} s{5}', MANY), [(5, 5, 5, 5, 0)])

    def test_held_against_plain_listing(self):
        compared = 0
        for sheet, recipe, some, most, words in random_families(seeded(260), 300, 4):
            names = sorted({name for name, _ in placed_blocks(sheet)})
            listed = {amounts_of(word, names) for word in words}
            found = [tuple(amounts[name] for name in names) for amounts in least_amounts(some)]
            self.assertEqual(found, sorted(set(found)))
            for one in found:
                self.assertFalse(any(is_within(other, one) for other in found if other != one))
                self.assertFalse(any(is_within(other, one) and other != one for other in listed))
                if sum(one) <= most:
                    self.assertIn(one, listed)
            for one in listed:
                self.assertTrue(any(is_within(other, one) for other in found))
            compared += len(found) > 1
            for one in found:
                self.assertIsNotNone(chain_of_amounts(some, dict(zip(names, one))) if sum(one) < 15 else one)
        self.assertGreater(compared, 20)


class ChainOfAmounts(unittest.TestCase):
    def test_ordinary(self):
        some = fam('p p r* | r{3}')
        self.assertIn(chain_of_amounts(some, {'p': 2, 'r': 1}), (row('p p r'), row('r p p')))
        self.assertEqual(chain_of_amounts(some, {'r': 3}), row('r r r'))
        for amounts in ({}, {'p': 0}, {'p': 0, 'r': 0}, {'p': 1}, {'p': 1, 'r': 2}, {'r': 4}):
            self.assertEqual(chain_of_amounts(some, amounts), None)
        self.assertEqual(chain_of_amounts(fam('p').both(fam('r')), {'p': 1}), None)

    def test_blocks_that_are_not_linear(self):
        some = fam('own mix x', MIXED)
        good = {'own': 1, 'mix': 1, 'x': 1}
        self.assertTrue(some.has(chain_of_amounts(some, dict(good, cap=0, tee=0))))
        self.assertEqual(chain_of_amounts(some, dict(good, cap=1)), None)
        self.assertEqual(chain_of_amounts(some, dict(good, cap=10 ** 9, x=10 ** 9)), None)
        self.assertEqual(chain_of_amounts(some, {'tee': 1}), None)

    def test_bound(self):
        # With two states: (amount + 1) * (other + 1) at most 10000.
        some = fam('(p | r)+')
        self.assertEqual(len(chain_of_amounts(some, {'p': 99, 'r': 99})), 198)
        self.assertEqual(len(chain_of_amounts(some, {'p': 9999})), 9999)
        with self.assertRaises(TooLarge):
            chain_of_amounts(some, {'p': 99, 'r': 100})
        with self.assertRaises(TooLarge):
            chain_of_amounts(some, {'p': 10000})
        self.assertEqual(chain_of_amounts(fam('p{2}'), {'p': 6665}), None)
        with self.assertRaises(TooLarge):
            # Three states, and 6667 amounts of parts: 20001.
            chain_of_amounts(fam('p{2}'), {'p': 6666})
        self.assertEqual(chain_of_amounts(fam('p{4}'), {'p': 3999}), None)
        with self.assertRaises(TooLarge):
            chain_of_amounts(fam('p{4}'), {'p': 4000})

    def test_held_against_plain_listing(self):
        found = 0
        for sheet, recipe, some, most, words in random_families(seeded(261), 150, 3):
            names = sorted({name for name, _ in placed_blocks(sheet)})
            listed = {amounts_of(word, names) for word in words}
            for many in itertools.product(range(4), repeat=len(names)):
                if sum(many) <= most:
                    chain = chain_of_amounts(some, dict(zip(names, many)))
                    self.assertIs(chain is not None, many in listed)
                    if chain is not None:
                        self.assertTrue(some.has(chain))
                        self.assertEqual(amounts_of(chain, names), many)
                        found += 1
        self.assertGreater(found, 150)

    def test_errors(self):
        some = fam('x', MIXED)
        for bad in BAD_AMOUNTS:
            with self.assertRaises(BadAmounts, msg=bad):
                chain_of_amounts(some, bad)
        with self.assertRaises(BadAmounts):
            chain_of_amounts(some, {'x': 10 ** 9, 'y': -1})
        self.assertEqual(MIXED.joints(), ['a', 'c'])
        self.assertEqual(len(AB), 2)
