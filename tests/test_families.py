import unittest

from endsmeet.errors import BadChain, BadNumber, BadRecipe, BadSheet, Misfitting, TooLarge
from endsmeet.families import Family, family
from endsmeet.placing import chain_form
from endsmeet.reading import read_recipe
from endsmeet.sheets import Sheet
from tests.family_support import (
    BAD_FOR_INT, MIXED, PR, SHEET, check_least, fam, random_families, row, walk, words_of,
)
from tests.recipe_support import all_chains, random_recipe
from tests.support import AB, seeded
from tests.test_placing import NO_CHAINS
from tests.test_recipes import NO_RECIPES


def order(chain):
    return len(chain), list(chain)


class Tables(unittest.TestCase):
    def test_ordinary(self):
        one = fam('z y | x+', SHEET)
        self.assertEqual(one.table(), (
            [(0, ('x', 0), 1), (0, ('x', 1), 2), (0, ('y', 0), 3), (0, ('z', 0), 4), (1, ('x', 0), 1), (2, ('x', 1), 2),
             (3, ('z', 0), 5), (4, ('y', 0), 5)], [1, 2, 5],
        ))
        self.assertEqual(fam('p').table(), ([(0, ('p', 0), 1)], [1]))
        self.assertEqual(fam('p+').table(), ([(0, ('p', 0), 1), (1, ('p', 0), 1)], [1]))
        self.assertEqual(fam('(p p)* p').table(), ([(0, ('p', 0), 1), (1, ('p', 0), 0)], [1]))
        self.assertEqual(fam('p* r p*').table(), (
            [(0, ('p', 0), 0), (0, ('r', 0), 1), (1, ('p', 0), 1)], [1],
        ))

    def test_no_chain(self):
        none = fam('p').without(fam('p | r'))
        self.assertEqual(none.table(), ([], []))
        self.assertIs(bool(none), False)
        self.assertIs(bool(fam('p')), True)
        self.assertEqual([none.first(), none.is_endless(), none.chains(0), none.chains(5)], [None, False, [], []])
        self.assertIs(none.has(row('p')), False)
        self.assertEqual(none, fam('r r').both(fam('r')))
        self.assertTrue(none.within(fam('p')))
        self.assertTrue(none.within(none))
        self.assertFalse(fam('p').within(none))
        self.assertEqual(none.parting(none), None)
        self.assertEqual(fam('r | p').parting(none), row('p'))

    def test_the_empty_list_is_no_chain(self):
        for one, other in (('p*', 'p+'), ('p?', 'p'), ('(p? r?)*', '(p | r)+'), ('p{0..3}', 'p{1..3}'), ('~(p*)', 'p+')):
            self.assertEqual(fam(one), fam(other))
            self.assertNotIn(0, fam(one).table()[1])
            self.assertEqual(fam(one).chains(0), [])

    def test_new_lists(self):
        one = fam('p r')
        one.table()[0].clear()
        one.table()[1].clear()
        one.chains(2).clear()
        one.first().clear()
        self.assertEqual(one.table()[1], [3])
        self.assertEqual(one.first(), row('p r'))
        self.assertEqual(one.sheet, PR)

    def test_many_sets_of_states_and_few_states(self):
        # The words of the first part alone would need 2 ** 15 states, or 2 ** 60 and more.
        self.assertEqual(fam('(p | r)* p (p | r){15} | (p | r)+'), fam('(p | r)+'))
        self.assertEqual(fam('(p | r)* p ((p | r){10}){6} | (p | r){2..} | p'), fam('p | (p | r){2..}'))
        whole = fam('(p | r)* p (p | r){9}')
        self.assertEqual(len(whole.table()[1]) > 500, True)
        self.assertEqual(whole.first(), row('p ' * 10))
        self.assertTrue(whole.within(fam('(p | r){10..}')))

    def test_large_recipes(self):
        self.assertEqual(fam('(p{20}){10}').first(), row('p ' * 200))
        self.assertEqual(fam('(p{0..20}){10}').chains(60), [row('p ' * 60)])
        self.assertEqual(fam('((p?){20}){10}'), fam('(p{0..10}){20}'))
        self.assertEqual(fam('(p{20}){2} (p{20})*'), fam('(p{20}){2..}'))
        deep = ('block', 'p', 0)
        for _ in range(39):
            deep = ('times', deep, 0, None)
        self.assertEqual(family(PR, deep), fam('p+'))

    def test_held_against_plain_listing(self):
        several = 0
        for sheet, recipe, found, most, words in random_families(seeded(160), 300):
            check_least(self, found.table())
            chains = all_chains(sheet, min(most, 4))
            for chain in chains:
                self.assertIs(found.has(chain), tuple(chain) in words)
                self.assertIs(walk(found.table(), chain), tuple(chain) in words)
            forms = {}
            for word in words:
                forms.setdefault(len(word), set()).add(tuple(chain_form(sheet, word)))
            for many in range(most + 1):
                told = sorted(list(form) for form in forms.get(many, ()))
                if len(told) <= 500:
                    self.assertEqual(found.chains(many), told)
            first = min((list(word) for word in words), key=order, default=None)
            if first is not None:
                self.assertEqual(found.first(), first)
                several += 1
            else:
                self.assertTrue(found.first() is None or len(found.first()) > most)
            self.assertIs(bool(found), found.first() is not None)
        self.assertGreater(several, 200)

    def test_is_endless(self):
        for told, is_endless in (('p{20}', False), ('p*', True), ('p r* p', True), ('(p | r){3..5}', False), ('p?', False)):
            self.assertIs(fam(told).is_endless(), is_endless)
        self.assertIs(fam('p* r').both(fam('p r*')).is_endless(), False)
        self.assertIs(fam('p+').without(fam('p{3..}')).is_endless(), False)


class Taken(unittest.TestCase):
    def test_equal(self):
        for one, other in (
            ('(p | r)*', '(p* r*)*'), ('(p r)* p', 'p (r p)*'), ('p r | r p', 'r p'), ('p{2..5}', 'p p (p p? p?)?'),
            ('(p p)+ | (p p p)+', 'p{2..3} | p{4} | p{6} | (p{6})* (p{2} | p{3} | p{4} | p{6})'),
            ('(p{3})+ | (p{4})+ | (p{5})+', '(p{5})+ | (p{4})+ | (p{3})+'),
        ):
            self.assertEqual(fam(one), fam(other))
            self.assertEqual(fam(one).parting(fam(other)), None)
            self.assertTrue(fam(one).within(fam(other)))
            self.assertFalse(fam(one) != fam(other))
        self.assertEqual(fam('z x* y', SHEET), fam('y ~(x+) z | z y', SHEET))

    def test_unlike_in_one_long_chain_alone(self):
        one, other = fam('p+'), fam('p{1..20} | p{22..} | (p{7}){9} | p{20} p'.replace('p{22..}', 'p{20} p p p*'))
        self.assertEqual(one, other)
        less = one.without(fam('(p{20}){5} p{17}'))
        self.assertNotEqual(one, less)
        self.assertEqual(one.parting(less), row('p ' * 117))
        self.assertEqual(less.parting(one), row('p ' * 117))
        self.assertTrue(less.within(one))
        self.assertFalse(one.within(less))
        self.assertEqual(one.without(less).chains(60), [])
        self.assertEqual(one.without(less).first(), row('p ' * 117))
        self.assertEqual(fam('(p{8})+').both(fam('(p{9})+')).first(), row('p ' * 72))
        self.assertEqual(fam('((p{20}){2})+').both(fam('((p{7}){7})+')).first(), row('p ' * 1960))

    def test_other_things_are_not_equal(self):
        for other in (None, 'p', [], fam('p').table()):
            self.assertNotEqual(fam('p'), other)
        self.assertNotEqual(fam('x', SHEET), fam('x', MIXED))
        # The same arrows with other ends, and the same ends with other arrows.
        self.assertNotEqual(fam('p p'), fam('p | p p'))
        self.assertNotEqual(fam('p'), fam('r'))

    def test_sets(self):
        one, other = fam('p+ r'), fam('p r+ | p p')
        self.assertEqual(one.both(other), fam('p r'))
        self.assertEqual(one.either(other), fam('p+ r | p r+ | p p'))
        self.assertEqual(one.without(other), fam('p{2..} r'))
        self.assertEqual(other.without(one), fam('p r{2..} | p p'))
        self.assertEqual(one.parting(other), row('p p'))
        self.assertEqual([one.within(other), fam('p r').within(one), one.within(one)], [False, True, True])
        self.assertIsInstance(one.both(other), Family)

    def test_held_against_plain_listing(self):
        rnd = seeded(161)
        parted = 0
        for sheet, recipe, one, most, words in random_families(rnd, 150):
            near = random_recipe(rnd, sheet, 4)
            try:
                other = family(sheet, near)
            except Misfitting:
                continue
            least = min(most, 4)
            others = words_of(sheet, near, least)
            words = {word for word in words if len(word) <= least}
            for found, told in (
                (one.both(other), words & others), (one.either(other), words | others),
                (one.without(other), words - others),
            ):
                check_least(self, found.table())
                for chain in all_chains(sheet, least):
                    self.assertIs(found.has(chain), tuple(chain) in told)
            self.assertIs(one.within(other), not one.without(other))
            self.assertIs(one == other, one.parting(other) is None)
            first = min((list(word) for word in words ^ others), key=order, default=None)
            if first is not None:
                self.assertEqual(one.parting(other), first)
                self.assertEqual(other.parting(one), first)
                parted += 1
        self.assertGreater(parted, 50)

    def test_laws(self):
        rnd = seeded(162)
        for sheet, recipe, one, _, _ in random_families(rnd, 60):
            near = random_recipe(rnd, sheet, 3)
            try:
                other = family(sheet, near)
            except Misfitting:
                continue
            both, either = one.both(other), one.either(other)
            self.assertEqual(both, other.both(one))
            self.assertEqual(either, other.either(one))
            self.assertEqual(either.without(other), one.without(other))
            self.assertEqual(one.without(other).either(both), one)
            self.assertEqual(family(sheet, ('either', (recipe, near))), either)
            self.assertEqual(family(sheet, ('turned', recipe)), one)


class Listing(unittest.TestCase):
    def test_numbers(self):
        whole = fam('(p | r)+')
        self.assertEqual(len(whole.chains(9)), 272)
        with self.assertRaises(TooLarge):
            whole.chains(10)
        with self.assertRaises(TooLarge):
            whole.chains(60)
        self.assertEqual(whole.chains(0), [])
        self.assertEqual(whole.chains(2), [row('p p'), row('p r'), row('r r')])
        self.assertEqual(fam('p+').chains(60), [row('p ' * 60)])
        for many in BAD_FOR_INT + (-1, 61, 10 ** 30):
            with self.assertRaises(BadNumber):
                whole.chains(many)

    def test_500_chains_and_more(self):
        # Chains with one r, or with an s in one of two places that are not alike.
        sheet = Sheet(AB, {name: ('a', 'b') for name in ('p', 'q', 'r', 's', 't')})
        some = fam('(p | q | r | s | t){3} (p | q | r | s)', sheet)
        self.assertEqual(len(some.chains(4)), 500)
        more = some.either(fam('t t t t', sheet))
        with self.assertRaises(TooLarge):
            more.chains(4)
        self.assertEqual(more.chains(3), [])
        self.assertEqual(some.chains(4), sorted(some.chains(4)))


class Arguments(unittest.TestCase):
    def test_errors_in_order(self):
        for bad in (None, {}, 'sheet'):
            with self.assertRaises(BadSheet):
                family(bad, None)
        for bad in NO_RECIPES:
            with self.assertRaises(BadRecipe):
                family(SHEET, bad)
        for told in ('x y y', 'x* ~x', 'y*', '~(y x) | x'):
            with self.assertRaises(Misfitting):
                fam(told, SHEET)

    def test_other_sheets(self):
        one, other = fam('x', SHEET), fam('x', MIXED)
        for ask in (one.both, one.either, one.without, one.within, one.parting):
            with self.assertRaises(BadSheet):
                ask(other)
        again = Sheet(AB, {name: SHEET.ends(name) for name in SHEET})
        self.assertEqual(one, family(again, read_recipe(again, 'x')))
        self.assertEqual(one.both(fam('x', again)), one)

    def test_chains(self):
        one = fam('x+ y | own mix', MIXED)
        for bad in NO_CHAINS:
            if bad != [('mix', 0), ('cap', 0)]:
                with self.assertRaises(BadChain, msg=bad):
                    one.has(bad)
        self.assertIs(one.has((('x', 0), ('y', 0))), True)
        self.assertIs(one.has([('y', 0), ('x', 1)]), True)
        self.assertIs(one.has([('mix', 1), ('own', 0)]), True)
        self.assertIs(one.has([('mix', 1)]), False)
