import unittest

from endsmeet.errors import BadChain, BadFamilies
from endsmeet.families import Family
from endsmeet.joins import gives_nothing_new, joined, parted
from endsmeet.rings import rings_of
from endsmeet.sheets import Sheet
from tests.family_support import EASY, MIXED, SHEET, check_least, fam, random_families, row
from tests.recipe_support import all_chains, do_meet
from tests.support import AB, seeded
from tests.test_placing import NO_CHAINS

BAD_FAMILIES = (None, [], (), 5, 'families', {}, [None], ['x'], [[]], ('p',))


def put_together(sheet, words, most):
    """All words with at most so many blocks that are made of some."""
    found = {word for word in words if len(word) <= most}
    while True:
        more = {
            one + other for one in found for other in words
            if len(one) + len(other) <= most and do_meet(sheet, one[-1], other[0])
        } - found
        if not more:
            return found
        found |= more


class Joined(unittest.TestCase):
    def test_one_family(self):
        self.assertEqual(joined([fam('p')]), fam('p+'))
        self.assertEqual(joined((fam('p r'),)), fam('(p r | r p)+'))
        self.assertEqual(joined([fam('x', SHEET)]), fam('x+', SHEET))
        self.assertEqual(joined([fam('y', SHEET)]), fam('y', SHEET))
        self.assertEqual(joined([fam('z y', SHEET)]), fam('(z y)+', SHEET))
        self.assertEqual(joined([fam('p{3}')]), fam('(p{3})+'))
        self.assertIsInstance(joined([fam('p')]), Family)

    def test_several_families(self):
        self.assertEqual(joined([fam('p'), fam('r')]), fam('(p | r)+'))
        self.assertEqual(joined([fam('y', SHEET), fam('z', SHEET)]), fam('(z y)* z? | y (z y)* z?', SHEET))
        self.assertEqual(joined([fam('p{3}'), fam('p{5}')]), fam('p{3} | p{5} | p{6} | p{8..}'))
        # A block at which a chain ends can ask for unlike kinds.
        sheet = EASY[1]
        self.assertEqual(joined([fam('p | q | r', sheet)]), joined([fam('p', sheet), fam('q', sheet), fam('r', sheet)]))

    def test_families_without_chains(self):
        none = fam('p').both(fam('r'))
        self.assertEqual(joined([none]), none)
        self.assertEqual(joined([none, fam('p'), none]), fam('p+'))
        self.assertEqual(parted([none], row('p')), None)
        self.assertTrue(gives_nothing_new([none]))
        self.assertTrue(gives_nothing_new([none, none]))

    def test_nothing_new(self):
        for told, is_so in (
            (['p+'], True), (['p'], False), (['(p | r)+'], True), (['p+', 'r+'], False), (['p+', 'p'], True),
            (['(p p)+', 'p (p p)*'], True), (['(p{2})+', '(p{3})+'], False), (['p{5..}'], True), (['p{1..20}'], False),
        ):
            self.assertIs(gives_nothing_new([fam(text) for text in told]), is_so, told)
        self.assertTrue(gives_nothing_new([fam('y', SHEET)]))
        self.assertFalse(gives_nothing_new([fam('y', SHEET), fam('z', SHEET)]))
        # All but one long chain are there already.
        self.assertTrue(gives_nothing_new([fam('p{7..}')]))
        self.assertFalse(gives_nothing_new([fam('p{7..}').without(fam('p{20} p{20} p{20}'))]))

    def test_parts(self):
        self.assertEqual(parted([fam('z y', SHEET)], row('z y z y')), [row('z y'), row('z y')])
        self.assertEqual(parted([fam('x{2}', SHEET)], row('~x ~x ~x ~x')), [row('~x ~x')] * 2)
        self.assertEqual(parted([fam('p{3}'), fam('r')], tuple(row('p p p r p p p'))), [row('p p p'), row('r'), row('p p p')])
        self.assertEqual(parted([fam('p{3}'), fam('r')], row('p p r')), None)
        self.assertEqual(parted([fam('p r r')], row('r r p p r r')), [row('r r p'), row('p r r')])
        long = parted([fam('p{7}'), fam('p{20} p{20}')], row('p ' * 4001))
        self.assertEqual(sum(map(len, long)), 4001)
        self.assertEqual({len(part) for part in long}, {7, 40})
        self.assertEqual(parted([fam('p{7}'), fam('p{14}')], row('p ' * 4001)), None)

    def test_held_against_plain_listing(self):
        rnd = seeded(240)
        several = {True: 0, False: 0}
        for sheet, recipe, one, most, words in random_families(rnd, 200, 3, 4):
            least = min(most, 4)
            families, some = [one], {word for word in words if len(word) <= least}
            for other in random_families(rnd, 1, 3, 3):
                if other[0] == sheet:
                    families.append(other[2])
                    least = min(least, other[3])
                    some |= other[4]
            plain = put_together(sheet, some, least)
            whole = joined(families)
            check_least(self, whole.table())
            for chain in all_chains(sheet, least):
                is_made = tuple(chain) in plain
                self.assertIs(whole.has(chain), is_made)
                parts = parted(families, chain)
                self.assertIs(parts is not None, is_made)
                if is_made:
                    self.assertEqual([placed for part in parts for placed in part], chain)
                    self.assertTrue(all(any(found.has(part) for found in families) for part in parts))
            union = families[0]
            for other in families[1:]:
                union = union.either(other)
            self.assertIs(gives_nothing_new(families), union == whole)
            self.assertEqual(joined([whole]), whole)
            several[union == whole] += 1
        self.assertGreater(min(several.values()), 20)


class Arguments(unittest.TestCase):
    def test_errors_in_order(self):
        mixed_up = [fam('x', SHEET), fam('x', MIXED)]
        for bad in BAD_FAMILIES + (mixed_up, tuple(mixed_up), fam('p'), [fam('p'), None], [rings_of(fam('p'))]):
            for ask in (joined, gives_nothing_new, lambda some: parted(some, None)):
                with self.assertRaises(BadFamilies, msg=bad):
                    ask(bad)
        for bad in NO_CHAINS:
            with self.assertRaises(BadChain, msg=bad):
                parted([fam('x', MIXED)], bad)

    def test_equal_sheets(self):
        again = Sheet(AB, {name: SHEET.ends(name) for name in SHEET})
        self.assertEqual(joined([fam('y', SHEET), fam('z', again)]), joined([fam('z', SHEET), fam('y', SHEET)]))

    def test_not_changed(self):
        some = [fam('p'), fam('r')]
        chain = row('p r')
        parted(some, chain)[0].clear()
        joined(some)
        self.assertEqual([len(some), chain], [2, row('p r')])
