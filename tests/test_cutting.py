import itertools
import unittest

from endsmeet.cutting import Fragments, cut_chain, fragments
from endsmeet.errors import BadChain, BadKind, BadSheet
from endsmeet.placing import turned
from endsmeet.sheets import Sheet
from tests.family_support import (
    EASY, MIXED, PR, SHEET, check_least, comes_back, fam, random_families, row, walk, words_along,
)
from tests.recipe_support import all_chains
from tests.support import AB, seeded
from tests.test_placing import NO_CHAINS

MARK = ('', 0)
BAD_JOINTS = (None, [], ['a'], 'a', 5, {}, ('b',), ('what',), ('c', 'a'), ('a', 'a'), (5,), (None,), (['a'],), ('a', 'b'))


def word_of(fragment):
    chain, is_left_cut, is_right_cut = fragment
    return [MARK] * is_left_cut + list(chain) + [MARK] * is_right_cut


def order(fragment):
    return len(word_of(fragment)), word_of(fragment)


def short_fragments(some, cut, most):
    """All fragments of a family with at most so many blocks, as triples with tuples; None, if to list them takes long.

    From the start to any state, and from any state to an end, as many blocks as there are states are enough.
    """
    states = 1 + max([0] + [other for _, _, other in some.table()[0]])
    longest = most + 2 * states
    if longest > 12 or len(some.table()[0]) > 2 * states:
        return None
    return {
        (tuple(chain), left, right) for word in words_along(some.table(), longest)
        for chain, left, right in cut_chain(some.sheet, cut, word) if len(chain) <= most
    }


class Fragmenting(unittest.TestCase):
    def test_no_joint_cut(self):
        some = fragments(fam('z x* y', SHEET), ())
        self.assertEqual(some.table(), fam('z x* y', SHEET).table())
        self.assertEqual(some.first(), (row('y z'), False, False))
        self.assertIsInstance(some, Fragments)
        self.assertEqual([some.is_endless(), bool(some), some.sheet], [True, True, SHEET])

    def test_all_joints_cut(self):
        some = fragments(fam('z x* y', SHEET), ('a',))
        self.assertEqual(some.is_endless(), False)
        for chain, left, right, is_in in (
            ('x', True, True, True), ('~x', True, True, True), ('z', False, True, True), ('z', True, False, True),
            ('y', False, True, True), ('y', True, False, True), ('x', False, True, False), ('x', True, False, False),
            ('y', True, True, False), ('z', False, False, False), ('x x', True, True, False), ('z y', False, False, False),
        ):
            self.assertIs(some.has(row(chain), left, right), is_in, (chain, left, right))
        self.assertEqual(some.first(), (row('y'), True, False))
        self.assertEqual(some.table()[0][0], (0, MARK, 1))

    def test_some_joints_cut(self):
        sheet = Sheet({'k': 'k', 'm': 'm'}, {'p': ('k', 'k'), 'q': ('k', 'm'), 'r': ('m', 'm')})
        one = fam('p{2} q r{3} ~q p', sheet)
        some = fragments(one, ('m',))
        for chain, left, right, is_in in (
            ('p p q', False, True, True), ('~q p p', True, False, True), ('~q p', True, False, True),
            ('r', True, True, True), ('p q', False, True, True), ('p q', True, True, False), ('q', False, True, False),
            ('r r', True, True, False), ('p p q', False, False, False),
        ):
            self.assertIs(some.has(row(chain), left, right), is_in, (chain, left, right))
        self.assertEqual(fragments(one, ('k', 'm')).first(), (row('p'), True, False))
        self.assertEqual(cut_chain(sheet, ('k',), row('p p q r r ~q p')), [
            (row('p'), False, True), (row('p'), True, True), (row('q r r ~q'), True, True), (row('p'), True, False),
        ])

    def test_equal(self):
        one = fragments(fam('p+'), ('k',))
        self.assertEqual(one, fragments(fam('p{1..3}'), ('k',)))
        self.assertNotEqual(one, fragments(fam('p{1..2}'), ('k',)))
        self.assertNotEqual(one, fragments(fam('p+'), ()))
        self.assertEqual(fragments(fam('p'), ()), fragments(fam('p'), ('k',)))
        # The same arrows with other ends, and the same ends with other arrows.
        self.assertNotEqual(fragments(fam('p p'), ()), fragments(fam('p | p p'), ()))
        self.assertNotEqual(fragments(fam('p'), ()), fragments(fam('r'), ()))
        self.assertNotEqual(one, fam('p'))
        self.assertNotEqual(one, None)
        self.assertEqual([one.within(fragments(fam('p{1..2}'), ('k',))), fragments(fam('p'), ()).within(one)], [False, True])
        self.assertEqual(one.parting(fragments(fam('p{1..2}'), ('k',))), (row('p'), True, True))
        self.assertEqual(one.parting(fragments(fam('p{2..}'), ('k',))), (row('p'), False, False))
        self.assertEqual(one.parting(one), None)

    def test_no_chain(self):
        none = fragments(fam('p').both(fam('r')), ('k',))
        self.assertEqual([bool(none), none.table(), none.first(), none.is_endless()], [False, ([], []), None, False])
        self.assertIs(none.has(row('p'), True, False), False)
        self.assertEqual(none.parting(fragments(fam('r'), ())), (row('r'), False, False))

    def check_short(self, found, cut, most):
        """That just the right fragments with at most so many blocks are there; False, if to list them takes long."""
        plain = short_fragments(found, cut, most)
        if plain is None:
            return False
        some = fragments(found, cut)
        check_least(self, some.table())
        for chain in all_chains(found.sheet, most):
            for left in (False, True):
                for right in (False, True):
                    is_in = (tuple(chain), left, right) in plain
                    self.assertIs(some.has(chain, left, right), is_in, (chain, left, right))
                    self.assertIs(walk(some.table(), word_of((chain, left, right))), is_in)
        first = min(plain, key=order, default=None)
        if first is not None and order(first)[0] <= most:
            self.assertEqual(some.first(), (list(first[0]), first[1], first[2]))
        # No fragment has two marks on one side, or no block.
        for word in words_along(some.table(), 4):
            self.assertNotIn(MARK, word[1:-1])
            self.assertNotIn(word, ((MARK,), (MARK, MARK)))
        return True

    def test_machines_that_come_back_to_their_start(self):
        # Whether a fragment begins a chain or behind a cut is not told by the state of the family's machine.
        turned_over = Sheet(AB, {'x': ('a', 'b'), 'y': ('a', 'a')})
        for sheet, told in (
            (PR, 'p (p p)*'), (PR, '(p | r)* p (p | r)*'), (PR, '(p p)* r (p p)*'), (PR, 'p{2} (p{3})*'),
            (EASY[1], '(~q q)* p (~q q)*'), (EASY[1], '(r ~r)* p (r ~r)*'), (EASY[1], '(r q)* p (~q ~r)*'),
            (turned_over, 'x* y ~x*'),
        ):
            one = fam(told, sheet)
            self.assertTrue(comes_back(one.table()), told)
            for at in range(len(sheet.joints()) + 1):
                for cut in itertools.combinations(sheet.joints(), at):
                    self.assertTrue(self.check_short(one, cut, 3), (told, cut))
            self.assertEqual(fragments(one, ()).table(), one.table())
            some = fragments(one, tuple(sheet.joints()))
            self.assertIs(some.is_endless(), False)
            self.assertEqual({len(word) for word in words_along(some.table(), 5)} - {1, 2, 3}, set())

    def test_single_blocks_of_endless_families(self):
        one = fragments(fam('p (p p)*'), ('k',))
        self.assertEqual(one.table(), ([(0, MARK, 1), (0, ('p', 0), 2), (1, ('p', 0), 2), (2, MARK, 3)], [2, 3]))
        for told, is_same in (('p | p{3}', True), ('p | p{20}', True), ('p{3}', False), ('p | p{2}', False), ('p+', True)):
            other = fragments(fam(told), ('k',))
            self.assertIs(one == other, is_same, told)
            self.assertIs(one.parting(other) is None, is_same)
            self.assertIs(other.within(one), True)
            self.assertIs(one.within(other), is_same)
        self.assertEqual(one.parting(fragments(fam('p{3}'), ('k',))), (row('p'), False, False))
        self.assertEqual(one.parting(fragments(fam('p | p{2}'), ('k',))), (row('p'), True, True))

    def test_held_against_plain_listing(self):
        rnd = seeded(230)
        several, endless = 0, {False: 0, True: 0}
        for sheet, recipe, found, most, words in random_families(rnd, 250, 4):
            joints = sheet.joints()
            cut = tuple(sorted(rnd.sample(joints, rnd.randint(0, len(joints)))))
            some = fragments(found, cut)
            check_least(self, some.table())
            plain = {(tuple(chain), left, right) for word in words for chain, left, right in cut_chain(sheet, cut, word)}
            for chain, left, right in plain:
                self.assertIs(some.has(chain, left, right), True)
                self.assertIs(some.has(turned(sheet, chain), right, left), True)
            if found.is_endless() and self.check_short(found, cut, 2):
                endless[comes_back(found.table())] += 1
            states = 1 + max([0] + [other for _, _, other in found.table()[0]])
            if not found.is_endless() and states <= most + 1:
                for chain in all_chains(sheet, 3):
                    for left in (False, True):
                        for right in (False, True):
                            is_in = (tuple(chain), left, right) in plain
                            self.assertIs(some.has(chain, left, right), is_in)
                            self.assertIs(walk(some.table(), word_of((chain, left, right))), is_in)
                first = min(plain, key=order, default=None)
                told = some.first()
                self.assertEqual(told, None if first is None else (list(first[0]), first[1], first[2]))
                several += 1
        self.assertGreater(several, 80)
        self.assertGreater(endless[False], 15)
        self.assertGreater(endless[True], 3)

    def test_fragments_of_endless_families(self):
        rnd = seeded(231)
        for sheet, recipe, found, _, _ in random_families(rnd, 60):
            cut = tuple(sheet.joints()[:1])
            some = fragments(found, cut)
            for arrow in some.table()[0][:30]:
                self.assertIn(arrow[1][0], ('',) + tuple(sheet.names()))
            told = some.first()
            if told is not None:
                self.assertTrue(found)
                self.assertIs(some.has(*told), True)


class CutChain(unittest.TestCase):
    def test_ordinary(self):
        self.assertEqual(cut_chain(SHEET, ('a',), row('z y')), [(row('z'), False, True), (row('y'), True, False)])
        self.assertEqual(cut_chain(SHEET, (), row('z y')), [(row('z y'), False, False)])
        self.assertEqual(cut_chain(SHEET, ('a',), tuple(row('x'))), [(row('x'), False, False)])
        self.assertEqual(cut_chain(MIXED, ('c',), row('own mix x')), [(row('own'), False, True), (row('mix x'), True, False)])
        self.assertEqual(cut_chain(MIXED, ('a',), row('own mix x')), [(row('own mix'), False, True), (row('x'), True, False)])

    def test_turning(self):
        for chain in all_chains(MIXED, 3):
            for cut in ((), ('a',), ('c',), ('a', 'c')):
                parts = cut_chain(MIXED, cut, chain)
                self.assertEqual([placed for part, _, _ in parts for placed in part], chain)
                back = [(turned(MIXED, part), right, left) for part, left, right in parts[::-1]]
                self.assertEqual(cut_chain(MIXED, cut, turned(MIXED, chain)), back)

    def test_new_lists(self):
        chain = row('z y')
        cut_chain(SHEET, (), chain)[0][0].clear()
        self.assertEqual(chain, row('z y'))


class Arguments(unittest.TestCase):
    def test_errors_in_order(self):
        for bad in (None, {}, 'sheet'):
            with self.assertRaises(BadSheet):
                cut_chain(bad, None, None)
        for bad in BAD_JOINTS:
            with self.assertRaises(BadKind, msg=bad):
                cut_chain(MIXED, bad, None)
            with self.assertRaises(BadKind, msg=bad):
                fragments(fam('x', MIXED), bad)
        for bad in NO_CHAINS:
            with self.assertRaises(BadChain, msg=bad):
                cut_chain(MIXED, ('a', 'c'), bad)
            with self.assertRaises(BadChain, msg=bad):
                fragments(fam('x', MIXED), ('a', 'c')).has(bad, True, False)
        with self.assertRaises(BadChain):
            fragments(fam('x', MIXED), ()).has([MARK], False, False)

    def test_other_sheets(self):
        one, other = fragments(fam('x', SHEET), ()), fragments(fam('x', MIXED), ())
        self.assertNotEqual(one, other)
        for ask in (one.within, one.parting):
            with self.assertRaises(BadSheet):
                ask(other)
        again = Sheet(AB, {name: SHEET.ends(name) for name in SHEET})
        self.assertEqual(one, fragments(fam('x', again), ('a',)))
        self.assertEqual(PR.joints(), ['k'])
