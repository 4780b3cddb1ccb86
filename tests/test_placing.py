import unittest

from endsmeet.errors import BadChain, BadSheet
from endsmeet.placing import chain_form, closes, is_chain, ring_form, turned, write_chain
from endsmeet.sameness import same
from endsmeet.sheets import Sheet
from tests.recipe_support import XYZ, all_chains, chain_piece, do_meet, turning
from tests.support import AB, ABC, random_sheet, seeded

SHEET = Sheet(ABC, dict(XYZ, cap=('a',), tee=('a', 'b', 'c'), box=('c', 'c', 'c', 'c'), own=('c', 'c'), mix=('c', 'a')))
NO_CHAINS = (
    None, [], (), 'x', ('x', 0), 5, {}, {('x', 0): 1}, [('x', 2)], [('x', -1)], [('x', True)], [('x', False)],
    [('x', None)], [('x', '0')], [['x', 0]], [('x',)], [('x', 0, 0)], [('y', 1)], [('z', 1)], [('own', 1)],
    [('cap', 0)], [('tee', 0)], [('box', 0)], [('what', 0)], [(5, 0)], [(None, 0)], [(['x'], 0)], [('x', [0])],
    [('x', 0), ('x', 1)], [('x', 0), ('z', 0)], [('x', 0), None], [None], ['x'], [('y', 0), ('y', 0)],
    [('z', 0), ('y', 0), ('x', 0)], [('x', 0), ('y', 0), ('own', 0)], [[('x', 0)]], (('x', 0), ('x', 1)),
)


def all_of(ring):
    return [ring[at:] + ring[:at] for at in range(len(ring))]


class Chains(unittest.TestCase):
    def test_is_chain(self):
        for chain in (
            [('x', 0)], [('x', 1)], [('y', 0)], (('x', 0),), [('x', 0), ('x', 0)], (('y', 0), ('x', 1), ('x', 1)),
            [('z', 0), ('y', 0), ('z', 0)], [('own', 0), ('own', 0), ('mix', 0)], [('mix', 1), ('mix', 0)],
        ):
            self.assertIs(is_chain(SHEET, chain), True, chain)
        for thing in NO_CHAINS:
            self.assertIs(is_chain(SHEET, thing), False, thing)

    def test_ordinary(self):
        chain = [('x', 0), ('x', 0), ('y', 0)]
        self.assertEqual(turned(SHEET, chain), [('y', 0), ('x', 1), ('x', 1)])
        self.assertEqual(turned(SHEET, tuple(chain)), [('y', 0), ('x', 1), ('x', 1)])
        self.assertEqual(write_chain(SHEET, chain), 'x x y')
        self.assertEqual(write_chain(SHEET, turned(SHEET, chain)), 'y ~x ~x')
        self.assertIs(closes(SHEET, chain), False)
        self.assertIs(closes(SHEET, (('x', 0),)), True)
        self.assertIs(closes(SHEET, [('y', 0), ('x', 1), ('z', 0)]), True)
        self.assertEqual(chain_form(SHEET, chain), chain)
        self.assertEqual(chain_form(SHEET, (('y', 0), ('x', 1))), [('x', 0), ('y', 0)])
        self.assertEqual(ring_form(SHEET, [('x', 1), ('z', 0), ('y', 0)]), [('x', 0), ('y', 0), ('z', 0)])

    def test_one_placed_block(self):
        self.assertEqual(turned(SHEET, [('x', 0)]), [('x', 1)])
        self.assertEqual(turned(SHEET, [('y', 0)]), [('y', 0)])
        self.assertEqual(chain_form(SHEET, [('x', 1)]), [('x', 0)])
        self.assertEqual(ring_form(SHEET, (('x', 1),)), [('x', 0)])
        self.assertEqual(ring_form(SHEET, [('own', 0)]), [('own', 0)])
        self.assertEqual(write_chain(SHEET, [('mix', 1)]), '~mix')
        self.assertIs(closes(SHEET, [('y', 0)]), False)
        self.assertIs(closes(SHEET, [('own', 0)]), True)
        self.assertIs(closes(SHEET, [('mix', 0)]), False)

    def test_ends_of_one_kind(self):
        self.assertEqual(turned(SHEET, [('z', 0), ('y', 0)]), [('y', 0), ('z', 0)])
        self.assertEqual(chain_form(SHEET, [('z', 0), ('y', 0)]), [('y', 0), ('z', 0)])
        self.assertEqual(turned(SHEET, [('own', 0), ('mix', 0)]), [('mix', 1), ('own', 0)])

    def test_held_against_plain_listing(self):
        rnd = seeded(100)
        several = 0
        for _ in range(80):
            sheet = random_sheet(rnd, rnd.randint(1, 2), rnd.randint(1, 3), 3)
            for chain in all_chains(sheet, 4):
                self.assertTrue(is_chain(sheet, chain))
                other = turning(sheet, chain)
                self.assertEqual(turned(sheet, chain), other)
                self.assertEqual(turned(sheet, other), chain)
                self.assertEqual(chain_form(sheet, chain), min(chain, other))
                is_ring = do_meet(sheet, chain[-1], chain[0])
                self.assertIs(closes(sheet, chain), is_ring)
                if is_ring:
                    self.assertEqual(ring_form(sheet, chain), min(all_of(chain) + all_of(other)))
                    several += 1
                else:
                    with self.assertRaises(BadChain):
                        ring_form(sheet, chain)
        self.assertGreater(several, 200)

    def test_rings_begun_elsewhere_and_turned(self):
        sheet = Sheet(dict(AB, k='k'), {'p': ('k', 'k'), 'r': ('k', 'k'), 's': ('k', 'k'), 'x': ('a', 'b')})
        rnd = seeded(101)
        for _ in range(300):
            many = rnd.randint(1, 14)
            chain = [(rnd.choice('pr' if rnd.random() < 0.7 else 'prs'), 0) for _ in range(many)]
            if rnd.random() < 0.3:
                chain = chain[:3] * rnd.randint(1, 4)
            least = min(all_of(chain) + all_of(chain[::-1]))
            for other in all_of(chain) + all_of(chain[::-1]):
                self.assertEqual(ring_form(sheet, other), least)
        long = [('p', 0)] * 3000 + [('r', 0)] + [('p', 0)] * 2999
        self.assertEqual(ring_form(sheet, long), [('p', 0)] * 5999 + [('r', 0)])
        self.assertEqual(ring_form(sheet, [('x', 1)] * 4000), [('x', 0)] * 4000)

    def test_the_same_as_pieces(self):
        rnd = seeded(102)
        seen = {True: 0, False: 0}
        for _ in range(60):
            sheet = random_sheet(rnd, rnd.randint(1, 2), rnd.randint(1, 3), 2)
            chains = all_chains(sheet, 5)
            for _ in range(150):
                if not chains:
                    continue
                one = rnd.choice(chains)
                near = [chain for chain in chains if sorted(name for name, _ in chain) == sorted(n for n, _ in one)]
                other = rnd.choice(near)
                for is_ring in (False, True):
                    if is_ring and not (do_meet(sheet, one[-1], one[0]) and do_meet(sheet, other[-1], other[0])):
                        continue
                    form = ring_form if is_ring else chain_form
                    are_same = form(sheet, one) == form(sheet, other)
                    pieces = chain_piece(one, is_ring), chain_piece(other, is_ring)
                    self.assertEqual(same(sheet, *pieces) is not None, are_same)
                    seen[are_same] += 1
        self.assertGreater(min(seen.values()), 300)

    def test_errors(self):
        for ask in (turned, closes, chain_form, write_chain, ring_form):
            for bad in NO_CHAINS:
                with self.assertRaises(BadChain, msg=bad):
                    ask(SHEET, bad)
                for no_sheet in (None, {}, 'sheet'):
                    with self.assertRaises(BadSheet):
                        ask(no_sheet, bad)
        with self.assertRaises(BadChain):
            ring_form(SHEET, [('x', 0), ('y', 0)])

    def test_new_lists(self):
        chain = [('x', 0)]
        for ask in (turned, chain_form, ring_form):
            found = ask(SHEET, chain)
            found.append(('y', 0))
            self.assertEqual(chain, [('x', 0)])
            self.assertIsInstance(ask(SHEET, tuple(chain)), list)
