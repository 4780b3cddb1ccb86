import unittest

from endsmeet.cutting import Fragments, cut_chain, fragments
from endsmeet.errors import BadChain, BadKind, BadSheet
from endsmeet.placing import turned
from endsmeet.sheets import Sheet
from tests.family_support import MIXED, PR, SHEET, check_least, fam, random_families, row, walk
from tests.recipe_support import all_chains
from tests.support import AB, seeded
from tests.test_placing import NO_CHAINS

MARK = ('', 0)
BAD_JOINTS = (None, [], ['a'], 'a', 5, {}, ('b',), ('what',), ('c', 'a'), ('a', 'a'), (5,), (None,), (['a'],), ('a', 'b'))


def word_of(fragment):
    chain, is_left_cut, is_right_cut = fragment
    return [MARK] * is_left_cut + list(chain) + [MARK] * is_right_cut


def order(fragment):
    return len(word_of(fragment)), word_of(fragment)


class Fragmenting(unittest.TestCase):
    def test_no_joint_cut(self):
        some = fragments(fam('z x* y', SHEET), ())
        self.assertEqual(some.table(), fam('z x* y', SHEET).table())
        self.assertEqual(some.first(), (row('y z'), False, False))
        self.assertIsInstance(some, Fragments)
        self.assertEqual([some.is_endless(), bool(some), some.sheet], [True, True, SHEET])

    def test_all_joints_cut(self):
        some = fragments(fam('z x* y', SHEET), ('a',))
        self.assertEqual(some.is_endless(), False)
        for chain, left, right, is_in in (
            ('x', True, True, True), ('~x', True, True, True), ('z', False, True, True), ('z', True, False, True),
            ('y', False, True, True), ('y', True, False, True), ('x', False, True, False), ('x', True, False, False),
            ('y', True, True, False), ('z', False, False, False), ('x x', True, True, False), ('z y', False, False, False),
        ):
            self.assertIs(some.has(row(chain), left, right), is_in, (chain, left, right))
        self.assertEqual(some.first(), (row('y'), True, False))
        self.assertEqual(some.table()[0][0], (0, MARK, 1))

    def test_some_joints_cut(self):
        sheet = Sheet({'k': 'k', 'm': 'm'}, {'p': ('k', 'k'), 'q': ('k', 'm'), 'r': ('m', 'm')})
        one = fam('p{2} q r{3} ~q p', sheet)
        some = fragments(one, ('m',))
        for chain, left, right, is_in in (
            ('p p q', False, True, True), ('~q p p', True, False, True), ('~q p', True, False, True),
            ('r', True, True, True), ('p q', False, True, True), ('p q', True, True, False), ('q', False, True, False),
            ('r r', True, True, False), ('p p q', False, False, False),
        ):
            self.assertIs(some.has(row(chain), left, right), is_in, (chain, left, right))
        self.assertEqual(fragments(one, ('k', 'm')).first(), (row('p'), True, False))
        self.assertEqual(cut_chain(sheet, ('k',), row('p p q r r ~q p')), [
            (row('p'), False, True), (row('p'), True, True), (row('q r r ~q'), True, True), (row('p'), True, False),
        ])

    def test_equal(self):
        one = fragments(fam('p+'), ('k',))
        self.assertEqual(one, fragments(fam('p{1..3}'), ('k',)))
        self.assertNotEqual(one, fragments(fam('p{1..2}'), ('k',)))
        self.assertNotEqual(one, fragments(fam('p+'), ()))
        self.assertEqual(fragments(fam('p'), ()), fragments(fam('p'), ('k',)))
        # The same arrows with other ends, and the same ends with other arrows.
        self.assertNotEqual(fragments(fam('p p'), ()), fragments(fam('p | p p'), ()))
        self.assertNotEqual(fragments(fam('p'), ()), fragments(fam('r'), ()))
        self.assertNotEqual(one, fam('p'))
        self.assertNotEqual(one, None)
        self.assertEqual([one.within(fragments(fam('p{1..2}'), ('k',))), fragments(fam('p'), ()).within(one)], [False, True])
        self.assertEqual(one.parting(fragments(fam('p{1..2}'), ('k',))), (row('p'), True, True))
        self.assertEqual(one.parting(fragments(fam('p{2..}'), ('k',))), (row('p'), False, False))
        self.assertEqual(one.parting(one), None)

    def test_no_chain(self):
        none = fragments(fam('p').both(fam('r')), ('k',))
        self.assertEqual([bool(none), none.table(), none.first(), none.is_endless()], [False, ([], []), None, False])
        self.assertIs(none.has(row('p'), True, False), False)
        self.assertEqual(none.parting(fragments(fam('r'), ())), (row('r'), False, False))

    def test_held_against_plain_listing(self):
        rnd = seeded(230)
        several = 0
        for sheet, recipe, found, most, words in random_families(rnd, 250, 4):
            joints = sheet.joints()
            cut = tuple(sorted(rnd.sample(joints, rnd.randint(0, len(joints)))))
            some = fragments(found, cut)
            check_least(self, some.table())
            plain = {(tuple(chain), left, right) for word in words for chain, left, right in cut_chain(sheet, cut, word)}
            for chain, left, right in plain:
                self.assertIs(some.has(chain, left, right), True)
                self.assertIs(some.has(turned(sheet, chain), right, left), True)
            states = 1 + max([0] + [other for _, _, other in found.table()[0]])
            if not found.is_endless() and states <= most + 1:
                for chain in all_chains(sheet, 3):
                    for left in (False, True):
                        for right in (False, True):
                            is_in = (tuple(chain), left, right) in plain
                            self.assertIs(some.has(chain, left, right), is_in)
                            self.assertIs(walk(some.table(), word_of((chain, left, right))), is_in)
                first = min(plain, key=order, default=None)
                told = some.first()
                self.assertEqual(told, None if first is None else (list(first[0]), first[1], first[2]))
                several += 1
        self.assertGreater(several, 80)

    def test_fragments_of_endless_families(self):
        rnd = seeded(231)
        for sheet, recipe, found, _, _ in random_families(rnd, 60):
            cut = tuple(sheet.joints()[:1])
            some = fragments(found, cut)
            for arrow in some.table()[0][:30]:
                self.assertIn(arrow[1][0], ('',) + tuple(sheet.names()))
            told = some.first()
            if told is not None:
                self.assertTrue(found)
                self.assertIs(some.has(*told), True)


class CutChain(unittest.TestCase):
    def test_ordinary(self):
        self.assertEqual(cut_chain(SHEET, ('a',), row('z y')), [(row('z'), False, True), (row('y'), True, False)])
        self.assertEqual(cut_chain(SHEET, (), row('z y')), [(row('z y'), False, False)])
        self.assertEqual(cut_chain(SHEET, ('a',), tuple(row('x'))), [(row('x'), False, False)])
        self.assertEqual(cut_chain(MIXED, ('c',), row('own mix x')), [(row('own'), False, True), (row('mix x'), True, False)])
        self.assertEqual(cut_chain(MIXED, ('a',), row('own mix x')), [(row('own mix'), False, True), (row('x'), True, False)])

    def test_turning(self):
        for chain in all_chains(MIXED, 3):
            for cut in ((), ('a',), ('c',), ('a', 'c')):
                parts = cut_chain(MIXED, cut, chain)
                self.assertEqual([placed for part, _, _ in parts for placed in part], chain)
                back = [(turned(MIXED, part), right, left) for part, left, right in parts[::-1]]
                self.assertEqual(cut_chain(MIXED, cut, turned(MIXED, chain)), back)

    def test_new_lists(self):
        chain = row('z y')
        cut_chain(SHEET, (), chain)[0][0].clear()
        self.assertEqual(chain, row('z y'))


class Arguments(unittest.TestCase):
    def test_errors_in_order(self):
        for bad in (None, {}, 'sheet'):
            with self.assertRaises(BadSheet):
                cut_chain(bad, None, None)
        for bad in BAD_JOINTS:
            with self.assertRaises(BadKind, msg=bad):
                cut_chain(MIXED, bad, None)
            with self.assertRaises(BadKind, msg=bad):
                fragments(fam('x', MIXED), bad)
        for bad in NO_CHAINS:
            with self.assertRaises(BadChain, msg=bad):
                cut_chain(MIXED, ('a', 'c'), bad)
            with self.assertRaises(BadChain, msg=bad):
                fragments(fam('x', MIXED), ('a', 'c')).has(bad, True, False)
        with self.assertRaises(BadChain):
            fragments(fam('x', MIXED), ()).has([MARK], False, False)

    def test_other_sheets(self):
        one, other = fragments(fam('x', SHEET), ()), fragments(fam('x', MIXED), ())
        self.assertNotEqual(one, other)
        for ask in (one.within, one.parting):
            with self.assertRaises(BadSheet):
                ask(other)
        again = Sheet(AB, {name: SHEET.ends(name) for name in SHEET})
        self.assertEqual(one, fragments(fam('x', again), ('a',)))
        self.assertEqual(PR.joints(), ['k'])
