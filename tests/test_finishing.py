import unittest

from endsmeet.errors import BadPiece, BadPrices, BadSheet, NoFinish, TooLarge
from endsmeet.finishing import Finish, finish
from endsmeet.notation import read_piece
from endsmeet.pieces import Piece, free_ends
from endsmeet.sheets import Sheet
from tests.support import AB, ABC, cheapest_trees, random_piece, random_sheet, seeded
from tests.test_trees import staircase

SHEET = Sheet(AB, {'cup': ('b',), 'fork': ('a', 'a', 'b'), 'cap': ('a',)})
PRICES = {'cup': 5, 'fork': 0, 'cap': 2}
FORK = Piece(['fork'], [])
BAD_PRICES = (
    None, [], 5, {}, {'cup': 5, 'fork': 0}, {'cup': 5, 'fork': 0, 'cap': 2, 'bow': 1}, {'cup': 5, 'fork': 0, 'bow': 2},
    {'cup': 5, 'fork': -1, 'cap': 2}, {'cup': 5, 'fork': True, 'cap': 2}, {'cup': 5, 'fork': None, 'cap': 2},
    {'cup': 5, 'fork': '0', 'cap': 2}, {'cup': 5, 'fork': 0, 3: 2}, [('cup', 5), ('fork', 0), ('cap', 2)],
)


def long_sheet(**more):
    """A sheet in which the trees with tops y, v, t and r have 198, 199, 200 and 201 copies."""
    partners, blocks = staircase(7)
    for one, other in ('yz', 'vw', 'tu', 'rs'):
        partners[one], partners[other] = other, one
    blocks.update({'top': ('y', 'pg', 'pf', 'pc'), 'step': ('v', 'z'), 'rung': ('t', 'w'), 'peak': ('r', 'u')})
    blocks.update({'low': ('u',), 'high': ('s',)})
    blocks.update(more)
    return Sheet(partners, blocks)


class Finishing(unittest.TestCase):
    def test_ordinary(self):
        found = finish(SHEET, FORK, PRICES)
        self.assertEqual(found.price, 12)
        self.assertEqual(found.trees, [Piece(['cup'], []), Piece(['cup'], []), Piece(['cap'], [])])
        self.assertEqual(list(found.bounds.items()), [('a', 2), ('b', 5)])
        self.assertTrue(found.shows(SHEET, FORK, PRICES))

    def test_trees_of_several_copies(self):
        sheet = Sheet(ABC, {'cup': ('b',), 'dish': ('a', 'c'), 'lid': ('c',), 'cap': ('a',)})
        prices, cup = {'cup': 5, 'dish': 1, 'lid': 2, 'cap': 4}, Piece(['cup'], [])
        found = finish(sheet, cup, prices)
        self.assertEqual((found.price, found.trees), (3, [Piece(['dish', 'lid'], [((0, 1), (1, 0))])]))
        self.assertTrue(found.shows(sheet, cup, prices))
        self.assertEqual(finish(sheet, cup, dict(prices, cap=3)).trees, [Piece(['cap'], [])])

    def test_no_free_ends(self):
        closed = read_piece(SHEET, 'cup(0-0 cap)')
        found = finish(SHEET, closed, PRICES)
        self.assertEqual((found.trees, found.price), ([], 0))
        self.assertTrue(found.shows(SHEET, closed, PRICES))

    def test_held_against_plain_search(self):
        rnd = seeded(40)
        found = {True: 0, False: 0}
        for _ in range(300):
            sheet = random_sheet(rnd, rnd.randint(1, 3), rnd.randint(1, 4))
            prices = {name: rnd.choice((0, 0, 1, 2, 7, 10 ** 20)) for name in sheet}
            piece = random_piece(rnd, sheet, rnd.randint(1, 4))
            best = cheapest_trees(sheet, prices, 40)
            asked = [sheet.partner(sheet.ends(piece.blocks[copy])[end]) for copy, end in free_ends(sheet, piece)]
            lacking = [kind for kind in asked if kind not in best]
            found[bool(lacking)] += 1
            if lacking:
                with self.assertRaises(NoFinish) as caught:
                    finish(sheet, piece, prices)
                self.assertEqual(caught.exception.kind, lacking[0])
                continue
            answer = finish(sheet, piece, prices)
            self.assertTrue(answer.shows(sheet, piece, prices))
            self.assertEqual(answer.price, sum(best[kind][0] for kind in asked))
            self.assertEqual([len(tree) for tree in answer.trees], [best[kind][1] for kind in asked])
            self.assertEqual(list(answer.bounds), sheet.kinds())
        self.assertGreater(min(found.values()), 50)

    def test_prices_of_0_and_great_ones(self):
        prices = {name: 0 for name in SHEET}
        found = finish(SHEET, FORK, prices)
        self.assertEqual((found.price, found.bounds), (0, {'a': 0, 'b': 0}))
        self.assertEqual([len(tree) for tree in found.trees], [1, 1, 1])
        self.assertTrue(found.shows(SHEET, FORK, prices))
        prices = {name: 10 ** 60 for name in SHEET}
        self.assertEqual(finish(SHEET, FORK, prices).price, 3 * 10 ** 60)

    def test_no_finish(self):
        sheet = Sheet({'a': 'b', 'b': 'a', 'c': 'd', 'd': 'c'}, {'tee': ('c', 'a', 'd'), 'cap': ('d',)})
        with self.assertRaises(NoFinish) as caught:
            finish(sheet, Piece(['tee'], []), {'tee': 1, 'cap': 1})
        self.assertEqual(caught.exception.kind, 'b')
        with self.assertRaises(NoFinish) as caught:
            finish(sheet, read_piece(sheet, 'tee(0-0 cap)'), {'tee': 1, 'cap': 1})
        self.assertEqual(caught.exception.kind, 'b')
        with self.assertRaises(NoFinish) as caught:
            finish(sheet, read_piece(sheet, 'tee(0-0 cap, 2-0 tee(2-0 tee))'), {'tee': 1, 'cap': 1})
        self.assertEqual(caught.exception.kind, 'b')

    def test_first_free_end_without_a_tree(self):
        sheet = Sheet({'a': 'b', 'b': 'a', 'c': 'd', 'd': 'c'}, {'tee': ('c', 'a'), 'top': ('a', 'c'), 'cap': ('b',)})
        for name, kind in (('tee', 'd'), ('top', 'd')):
            with self.assertRaises(NoFinish) as caught:
                finish(sheet, Piece([name], []), {'tee': 1, 'top': 1, 'cap': 1})
            self.assertEqual(caught.exception.kind, kind)
        sheet = Sheet({'a': 'b', 'b': 'a', 'c': 'd', 'd': 'c'}, {'tee': ('c', 'a'), 'top': ('a', 'c')})
        for name, kind in (('tee', 'd'), ('top', 'b')):
            with self.assertRaises(NoFinish) as caught:
                finish(sheet, Piece([name], []), {'tee': 1, 'top': 1})
            self.assertEqual(caught.exception.kind, kind)

    def test_200_copies_and_one_more(self):
        sheet = long_sheet()
        prices = {name: 0 for name in sheet}
        low, high = Piece(['low'], []), Piece(['high'], [])
        found = finish(sheet, low, prices)
        self.assertEqual([len(tree) for tree in found.trees], [200])
        self.assertTrue(found.shows(sheet, low, prices))
        with self.assertRaises(TooLarge):
            finish(sheet, high, prices)

    def test_the_least_price_decides_before_the_number_of_copies(self):
        sheet = long_sheet(short=('r',))
        high = Piece(['high'], [])
        prices = {name: 0 for name in sheet}
        self.assertEqual([len(tree) for tree in finish(sheet, high, prices).trees], [1])
        # Now the short tree costs 1, and those of price 0 have more than 200 copies.
        prices['short'] = 1
        with self.assertRaises(TooLarge):
            finish(sheet, high, prices)
        prices['top'] = 1
        self.assertEqual([len(tree) for tree in finish(sheet, high, prices).trees], [1])

    def test_shows(self):
        good = finish(SHEET, FORK, PRICES)
        cup, cap = Piece(['cup'], []), Piece(['cap'], [])
        dear = read_piece(SHEET, 'fork(0-0 cup, 2-0 cap)')
        ring = Sheet(ABC, {'rod': ('a', 'b', 'a')})
        for trees in (
            [], [cup], [cup, cup], [cup, cup, cap, cap], [cup, cap, cup], [cap, cup, cup], [cup, cup, dear],
            [cup, cup, FORK], [cup, cup, read_piece(SHEET, 'cup(0-0 cap)')], [cup, cup, Piece(['bow'], [])],
            [cup, cup, Piece(['cap', 'cap'], [((0, 0), (1, 0))])],
            [cup, cup, read_piece(ring, 'rod(0@1, 1@1)')],
        ):
            altered = Finish(good.trees, good.price, good.bounds)
            altered.trees = trees
            self.assertIs(altered.shows(SHEET, FORK, PRICES), False, trees)
        for price in (11, 13, 0, -12, True):
            altered = Finish(good.trees, price, good.bounds)
            self.assertIs(altered.shows(SHEET, FORK, PRICES), False, price)
        for bounds in (
            {}, {'a': 2}, {'a': 2, 'b': 5, 'c': 0}, {'a': 2, 'c': 5}, {'a': 1, 'b': 5}, {'a': 2, 'b': 4},
            {'a': 3, 'b': 5}, {'a': 2, 'b': 6}, {'a': None, 'b': 5}, {'a': 2, 'b': None}, {'a': None, 'b': None},
            {'a': -2, 'b': 7}, {'a': 12, 'b': 0}, {'a': 2, 5: 5},
        ):
            altered = Finish(good.trees, good.price, bounds)
            self.assertIs(altered.shows(SHEET, FORK, PRICES), False, bounds)
        self.assertIs(good.shows(SHEET, Piece(['cup'], []), PRICES), False)
        self.assertIs(good.shows(SHEET, FORK, dict(PRICES, cup=4)), False)
        self.assertIs(good.shows(SHEET, FORK, dict(PRICES, cup=6)), False)

    def test_shows_where_all_pieces_cost_alike(self):
        prices = {name: 0 for name in SHEET}
        good = finish(SHEET, FORK, prices)
        cup, cap = Piece(['cup'], []), Piece(['cap'], [])
        large = read_piece(SHEET, 'fork(0-0 cup, 2-0 cap)')
        for trees, wanted in (
            ([cup, cup, cap], True), ([cup, cup, large], True), ([], False), ([cup], False), ([cup, cup], False),
            ([cup, cup, cap, cap], False), ([cup, cap, cup], False), ([cup, cup, FORK], False),
            ([cup, cup, read_piece(SHEET, 'cup(0-0 cap)')], False), ([cup, cup, Piece(['bow'], [])], False),
            ([cup, cup, read_piece(SHEET, 'fork(0@1, 2@1)')], False),
        ):
            good.trees = trees
            self.assertIs(good.shows(SHEET, FORK, prices), wanted)
        prices = {name: 1 for name in SHEET}
        good = finish(SHEET, cup, prices)
        self.assertTrue(good.shows(SHEET, cup, prices))
        good.price = True
        self.assertIs(good.shows(SHEET, cup, prices), False)

    def test_price_is_that_of_the_trees(self):
        # Bounds with the told price alone are not enough: the trees have to have it, too.
        prices = {'cup': 5, 'fork': 0, 'cap': 2}
        dear = read_piece(SHEET, 'fork(1-0 cup, 2-0 cap)')
        one = Piece(['cup'], [])
        self.assertEqual(finish(SHEET, one, prices).price, 2)
        self.assertIs(Finish([dear], 7, {'a': 2, 'b': 5}).shows(SHEET, one, prices), False)
        self.assertIs(Finish([dear], 2, {'a': 2, 'b': 5}).shows(SHEET, one, prices), False)

    def test_kinds_without_trees(self):
        sheet = Sheet(ABC, {'cup': ('b',), 'cap': ('a',), 'hub': ('c', 'c')})
        prices = {'cup': 1, 'cap': 2, 'hub': 3}
        found = finish(sheet, Piece(['cup'], []), prices)
        self.assertEqual(found.bounds, {'a': 2, 'b': 1, 'c': None})
        self.assertTrue(found.shows(sheet, Piece(['cup'], []), prices))
        # A value for c bounds nothing, since no tree has a top of this kind, and none is wrong.
        for worth in (0, 3):
            self.assertTrue(Finish([Piece(['cap'], [])], 2, {'a': 2, 'b': 1, 'c': worth}).shows(
                sheet, Piece(['cup'], []), prices))
        with self.assertRaises(NoFinish):
            finish(sheet, Piece(['hub'], []), prices)

    def test_equal_and_copied(self):
        trees, bounds = [Piece(['cup'], [])], {'a': 1}
        one = Finish(trees, 5, bounds)
        self.assertEqual(one, Finish((Piece(['cup'], []),), 5, {'a': 1}))
        for other in (Finish([], 5, bounds), Finish(trees, 6, bounds), Finish(trees, 5, {}), 5):
            self.assertNotEqual(one, other)
        trees.append(FORK)
        bounds['b'] = 3
        self.assertEqual(one, Finish((Piece(['cup'], []),), 5, {'a': 1}))
        prices = dict(PRICES)
        finish(SHEET, FORK, prices).bounds['a'] = 77
        self.assertEqual(prices, PRICES)

    def test_errors(self):
        for ask in (finish, Finish([], 0, {}).shows):
            for piece in (None, 'fork', Piece(['bow'], []), Piece(['cup', 'cup'], [((0, 0), (1, 0))])):
                with self.assertRaises(BadPiece):
                    ask(SHEET, piece, None)
                with self.assertRaises(BadSheet):
                    ask(None, piece, None)
            for prices in BAD_PRICES:
                with self.assertRaises(BadPrices, msg=prices):
                    ask(SHEET, FORK, prices)

    def test_no_finish_comes_before_too_large(self):
        partners, blocks = staircase(9)
        blocks['top'] = ('pi', 'ka')
        sheet = Sheet(partners, blocks)
        prices = {name: 1 for name in sheet}
        with self.assertRaises(NoFinish) as caught:
            finish(sheet, Piece(['top'], []), prices)
        self.assertEqual(caught.exception.kind, 'pa')
        with self.assertRaises(TooLarge):
            finish(Sheet(partners, dict(blocks, top=('pi',))), Piece(['top'], []), prices)
