import unittest

from endsmeet.errors import BadChain, BadNumber, BadSheet, TooLarge
from endsmeet.families import family
from endsmeet.placing import ring_form
from endsmeet.reading import read_recipe
from endsmeet.rings import Rings, count_rings, rings_of
from endsmeet.sheets import Sheet
from tests.family_support import (
    BAD_FOR_INT, MIXED, PR, SHEET, check_least, fam, random_families, ring_words, row, walk,
)
from tests.recipe_support import all_chains, do_meet
from tests.support import AB, seeded
from tests.test_placing import NO_CHAINS


def rings(told, sheet=PR):
    return rings_of(fam(told, sheet))


def bracelets(many):
    """The number of necklaces of two kinds of beads, turned over or not."""
    words = range(2 ** many)

    def form(word):
        told = bin(word)[2:].zfill(many)
        return min(min(row[at:] + row[:at] for at in range(many)) for row in (told, told[::-1]))

    return len({form(word) for word in words})


class Sets(unittest.TestCase):
    def test_ordinary(self):
        some = rings('p{2} r')
        self.assertIsInstance(some, Rings)
        self.assertEqual(some.table(), (
            [(0, ('p', 0), 1), (0, ('r', 0), 2), (1, ('p', 0), 3), (1, ('r', 0), 4), (2, ('p', 0), 4),
             (3, ('r', 0), 5), (4, ('p', 0), 5)], [5],
        ))
        self.assertEqual(some.first(), row('p p r'))
        for told in ('p p r', 'p r p', 'r p p'):
            self.assertIs(some.has(row(told)), True)
            self.assertEqual(rings(told), some)
        self.assertIs(some.has(row('r r p')), False)
        self.assertIs(some.has((('p', 0), ('r', 0), ('p', 0))), True)
        self.assertEqual([bool(some), some.is_endless(), some.sheet], [True, False, PR])

    def test_chains_that_do_not_close(self):
        none = rings('z | x y | z y z', SHEET)
        self.assertEqual([bool(none), none.table(), none.first(), none.is_endless()], [False, ([], []), None, False])
        self.assertEqual(none, rings_of(fam('x', SHEET).both(fam('y', SHEET))))
        self.assertEqual(rings('z y | z x y', SHEET).first(), row('y z'))
        self.assertEqual(rings('z x y', SHEET), rings('y z x', SHEET))
        self.assertEqual(rings('x+ | x y', SHEET).first(), row('x'))
        self.assertEqual(rings('x+', SHEET), rings('~x+ | z', SHEET))

    def test_told_in_other_ways(self):
        for one, other in (
            ('(p r)+', '(r p)+'), ('p* r', 'p* r p*'), ('(p | r)* p', 'p (p | r)*'), ('(p r r)+', 'r (p r r)* p r'),
            ('(p | r)* p p (p | r)*', 'p (p | r)* p'), ('(p | r)* p (p | r){4}', '(p | r){2} p (p | r){2..}'),
            ('p{3} r{4}', 'r{2} p{3} r{2}'), ('(p | r)* p (p | r){3} r', 'r (p | r)* p (p | r){3}'),
        ):
            self.assertEqual(rings(one), rings(other), one)
            self.assertEqual(rings(one).parting(rings(other)), None)

    def test_many_things_and_few_states(self):
        # A ring has some p and at least so many blocks.
        for many in range(1, 6):
            told = '(p | r)* p (p | r){%d}' % many
            self.assertEqual(rings(told), rings('p (p | r){%d..}' % many))

    def test_unlike_in_one_long_ring_alone(self):
        one = fam('p* r p*')
        less = one.without(fam('p{20} p{20} r p{9} | p{9} r p{20} p{20}'))
        self.assertNotEqual(one, less)
        self.assertEqual(rings_of(one), rings_of(less))
        gone = less.without(fam('p* r p*').both(fam('(p | r){20} (p | r){20} (p | r){10}')))
        self.assertNotEqual(rings_of(gone), rings_of(one))
        self.assertEqual(rings_of(gone).parting(rings_of(one)), row('p ' * 49 + 'r'))
        self.assertEqual(rings_of(one).parting(rings_of(gone)), row('p ' * 49 + 'r'))
        self.assertTrue(rings_of(gone).within(rings_of(one)))
        self.assertFalse(rings_of(one).within(rings_of(gone)))

    def test_within_and_parting(self):
        one, other = rings('p+ r'), rings('(p | r)+')
        self.assertEqual([one.within(other), other.within(one), one.parting(other)], [True, False, row('p')])
        self.assertEqual(other.parting(one), row('p'))
        # The same arrows with other ends, and the same ends with other arrows.
        self.assertNotEqual(rings('p p'), rings('p | p p'))
        self.assertNotEqual(rings('p'), rings('r'))
        self.assertNotEqual(one, None)
        self.assertNotEqual(one, fam('p+ r'))
        self.assertNotEqual(fam('p+ r'), one)
        self.assertEqual(rings('p r').parting(rings('p p | r')), row('r'))

    def test_large_families(self):
        whole = fam('((p{20}){2})+').both(fam('((p{7}){7})+'))
        self.assertEqual(len(rings_of(whole).table()[0]), 1960 + 1)
        self.assertEqual(rings('(p{20}){9} r').first(), row('p ' * 180 + 'r'))
        self.assertEqual(len(rings('p{3} r p{5} r{2} p{7} r{3}').table()[1]), 1)

    def test_new_lists(self):
        some = rings('p r')
        some.table()[0].clear()
        some.first().clear()
        self.assertEqual(some.first(), row('p r'))
        self.assertEqual(len(some.table()[0]), 4)

    def test_held_against_plain_listing(self):
        several = 0
        for sheet, recipe, found, most, words in random_families(seeded(190), 250):
            plain = ring_words(sheet, words)
            some = rings_of(found)
            check_least(self, some.table())
            for chain in all_chains(sheet, min(most, 5 if len(sheet) < 3 else 4)):
                self.assertIs(walk(some.table(), chain), tuple(chain) in plain)
                if do_meet(sheet, chain[-1], chain[0]):
                    self.assertIs(some.has(chain), tuple(chain) in plain)
            first = min((list(word) for word in plain), key=lambda word: (len(word), word), default=None)
            if first is not None:
                self.assertEqual(some.first(), first)
                several += 1
            for many in range(1, most + 1):
                forms = {tuple(ring_form(sheet, word)) for word in plain if len(word) == many}
                self.assertEqual(count_rings(some, many), len(forms))
            if not found.is_endless() and found.first() is None:
                self.assertFalse(some)
        self.assertGreater(several, 60)


class Numbers(unittest.TestCase):
    def test_bracelets(self):
        whole = rings('(p | r)+')
        for many in range(1, 13):
            self.assertEqual(count_rings(whole, many), bracelets(many))
        self.assertEqual(count_rings(whole, 60), 9607680019329456)

    def test_two_ways(self):
        # Rings of x alone can be turned over, but are never their own turnings.
        self.assertEqual([count_rings(rings('x+', SHEET), many) for many in (1, 2, 59, 60)], [1] * 4)
        self.assertEqual([count_rings(rings('z x* y', SHEET), many) for many in (1, 2, 3, 60)], [0, 1, 1, 1])
        sheet = Sheet(AB, {'x': ('b', 'a'), 'w': ('b', 'a')})
        turned = rings('(x | w)+', sheet)
        # All ways are the same along such a ring, so that these are necklaces that are not turned over.
        self.assertEqual([count_rings(turned, many) for many in range(1, 9)], [2, 3, 4, 6, 8, 14, 20, 36])

    def test_some_lengths(self):
        self.assertEqual([count_rings(rings('(p r r)+'), many) for many in range(1, 7)], [0, 0, 1, 0, 0, 1])
        self.assertEqual([count_rings(rings('p{3} r{3} | (p r){3}'), many) for many in (5, 6, 7)], [0, 2, 0])
        self.assertEqual(count_rings(rings('p{1}'), 1), 1)
        self.assertEqual(count_rings(rings_of(fam('p').both(fam('r'))), 60), 0)

    def test_many_different_things(self):
        # The words of a ring lead to as many states as they do different things.
        some = rings('(p | r){13}')
        self.assertEqual(count_rings(some, 13), bracelets(13))
        self.assertEqual(count_rings(some, 12), 0)

    def test_too_many_different_things(self):
        # In the middles of many unlike rings rows do many unlike things, but shorter and longer rows do not.
        rnd = seeded(191)
        sheet = Sheet({'k': 'k'}, {name: ('k', 'k') for name in 'pqrst'})
        told = [' '.join(rnd.choice('pqrst') for _ in range(14)) for _ in range(154)]
        some = fam(' | '.join(told[:14]), sheet)
        for at in range(14, 154, 14):
            some = some.either(fam(' | '.join(told[at:at + 14]), sheet))
        found = rings_of(some)
        for many in (1, 2, 5):
            self.assertEqual(count_rings(found, many), 0)
        for many in (6, 14, 60):
            with self.assertRaises(TooLarge):
                count_rings(found, many)

    def test_errors(self):
        for many in BAD_FOR_INT + (0, -1, 61, 10 ** 30):
            with self.assertRaises(BadNumber):
                count_rings(rings('(p | r)+'), many)


class Arguments(unittest.TestCase):
    def test_chains(self):
        some = rings('x+ | own+', MIXED)
        for bad in NO_CHAINS:
            with self.assertRaises(BadChain, msg=bad):
                some.has(bad)
        for told in ('x y', 'mix', 'own mix', 'y', 'z', 'z y z'):
            with self.assertRaises(BadChain):
                some.has(row(told, MIXED))
        self.assertEqual(
            [some.has(row(told, MIXED)) for told in ('~x ~x', 'own', 'y z', 'mix y ~mix')], [True, True, False, False],
        )

    def test_other_sheets(self):
        one, other = rings('x', SHEET), rings('x', MIXED)
        self.assertNotEqual(one, other)
        for ask in (one.within, one.parting):
            with self.assertRaises(BadSheet):
                ask(other)
        again = Sheet(AB, {name: SHEET.ends(name) for name in SHEET})
        self.assertEqual(one, rings_of(family(again, read_recipe(again, 'x'))))
        self.assertTrue(one.within(rings('x', again)))
