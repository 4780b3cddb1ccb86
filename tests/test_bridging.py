import unittest

from endsmeet.bridging import Bridge, bridge
from endsmeet.errors import BadKind, BadPrices, BadSheet, NoBridge, TooLarge
from endsmeet.notation import read_piece
from endsmeet.pieces import Piece, free_ends, is_piece_of, rings
from endsmeet.sheets import Sheet
from tests.support import ABC, AB, cheapest_trees, random_sheet, seeded
from tests.test_finishing import BAD_PRICES, long_sheet

SHEET = Sheet(ABC, {'rod': ('a', 'b'), 'tee': ('a', 'c', 'b'), 'cup': ('a',)})
PRICES = {'rod': 1, 'tee': 4, 'cup': 9}
FULL = Sheet(ABC, {'rod': ('a', 'b'), 'tee': ('a', 'c', 'b'), 'cup': ('a',), 'cap': ('b',)})
ALL_PRICES = {'rod': 1, 'tee': 4, 'cup': 9, 'cap': 6}


def cheapest_bridges(sheet, other, prices):
    """For each kind the least pair of price and number of copies of a bridge to another kind, by plain rounds."""
    trees = cheapest_trees(sheet, prices, 40)
    best = {}
    for _ in range(40):
        for name in sheet:
            ends = sheet.ends(name)
            for one in range(len(ends)):
                for two in range(len(ends)):
                    rest = [sheet.partner(ends[at]) for at in range(len(ends)) if at not in (one, two)]
                    if one == two or not all(kind in trees for kind in rest):
                        continue
                    own = (
                        prices[name] + sum(trees[kind][0] for kind in rest),
                        1 + sum(trees[kind][1] for kind in rest),
                    )
                    costs = [own] if ends[two] == other else []
                    further = best.get(sheet.partner(ends[two]))
                    if further is not None:
                        costs.append((own[0] + further[0], own[1] + further[1]))
                    for cost in costs:
                        if ends[one] not in best or cost < best[ends[one]]:
                            best[ends[one]] = cost
    return best


class Bridging(unittest.TestCase):
    def test_ordinary(self):
        found = bridge(SHEET, 'a', 'c', PRICES)
        self.assertEqual(found.price, 13)
        self.assertTrue(found.shows(SHEET, 'a', 'c', PRICES))
        self.assertEqual(list(found.bounds.items()), [('a', 9), ('b', None), ('c', None)])
        self.assertEqual(list(found.paths), ['a', 'b', 'c'])
        self.assertEqual(bridge(SHEET, 'a', 'b', PRICES).piece, Piece(['rod'], []))
        self.assertEqual(bridge(SHEET, 'b', 'a', PRICES).piece, Piece(['rod'], []))
        # A tree with a top of kind b is lacking, so that each bridge leaves an end of kind a.
        with self.assertRaises(NoBridge):
            bridge(SHEET, 'c', 'c', PRICES)
        found = bridge(FULL, 'c', 'c', ALL_PRICES)
        self.assertEqual((found.price, len(found.piece)), (23, 4))
        self.assertTrue(found.shows(FULL, 'c', 'c', ALL_PRICES))

    def test_two_ends_of_one_kind(self):
        sheet = Sheet(AB, {'fork': ('a', 'a'), 'rod': ('a', 'b'), 'two': ('b', 'b')})
        prices = {'fork': 3, 'rod': 1, 'two': 5}
        found = bridge(sheet, 'a', 'a', prices)
        self.assertEqual((found.piece, found.price), (Piece(['fork'], []), 3))
        self.assertEqual(bridge(sheet, 'b', 'b', prices).price, 5)
        self.assertEqual(bridge(sheet, 'a', 'b', prices).price, 1)

    def test_held_against_plain_search(self):
        rnd = seeded(50)
        found = {True: 0, False: 0}
        for _ in range(150):
            sheet = random_sheet(rnd, rnd.randint(1, 3), rnd.randint(1, 4))
            prices = {name: rnd.choice((0, 0, 1, 2, 7, 10 ** 20)) for name in sheet}
            for other in sheet.kinds():
                best = cheapest_bridges(sheet, other, prices)
                for kind in sheet.kinds():
                    found[kind in best] += 1
                    if kind not in best:
                        with self.assertRaises(NoBridge):
                            bridge(sheet, kind, other, prices)
                        continue
                    answer = bridge(sheet, kind, other, prices)
                    self.assertTrue(answer.shows(sheet, kind, other, prices))
                    self.assertEqual((answer.price, len(answer.piece)), best[kind])
                    self.assertEqual(answer.paths, {at: best[at][0] if at in best else None for at in sheet.kinds()})
                    self.assertTrue(is_piece_of(sheet, answer.piece))
                    self.assertEqual((rings(sheet, answer.piece), len(free_ends(sheet, answer.piece))), (0, 2))
        self.assertGreater(min(found.values()), 50)

    def test_prices_of_0(self):
        prices = {name: 0 for name in FULL}
        found = bridge(FULL, 'c', 'c', prices)
        self.assertEqual((found.price, len(found.piece)), (0, 4))
        self.assertTrue(found.shows(FULL, 'c', 'c', prices))

    def test_200_copies_and_one_more(self):
        partners = {'a': 'b', 'b': 'a'}
        blocks = {}
        kinds = [one + two for one in 'abcdefghijk' for two in 'abcdefghijklmnopqrst']
        for kind in kinds:
            partners['k' + kind], partners['p' + kind] = 'p' + kind, 'k' + kind
        for one, two in zip(kinds, kinds[1:]):
            blocks['x' + one] = ('p' + one, 'k' + two)
        sheet = Sheet(partners, blocks)
        prices = {name: 2 for name in sheet}
        found = bridge(sheet, 'p' + kinds[3], 'k' + kinds[203], prices)
        self.assertEqual((len(found.piece), found.price), (200, 400))
        self.assertTrue(found.shows(sheet, 'p' + kinds[3], 'k' + kinds[203], prices))
        with self.assertRaises(TooLarge):
            bridge(sheet, 'p' + kinds[3], 'k' + kinds[204], prices)
        with self.assertRaises(NoBridge):
            bridge(sheet, 'k' + kinds[3], 'k' + kinds[204], prices)

    def test_trees_beside_the_path_count(self):
        # The tree beside the path has 199 or 200 copies.
        sheet = long_sheet()
        partners = dict({kind: sheet.partner(kind) for kind in sheet.kinds()}, a='b', b='a')
        blocks = {name: sheet.ends(name) for name in sheet}
        sheet = Sheet(partners, dict(blocks, span=('a', 'w', 'b')))
        prices = {name: 0 for name in sheet}
        self.assertEqual(len(bridge(sheet, 'a', 'b', prices).piece), 200)
        sheet = Sheet(partners, dict(blocks, span=('a', 'u', 'b')))
        with self.assertRaises(TooLarge):
            bridge(sheet, 'a', 'b', prices)

    def test_shows(self):
        good = bridge(FULL, 'a', 'c', ALL_PRICES)
        self.assertEqual(good.bounds, {'a': 9, 'b': 6, 'c': 19})
        self.assertEqual(good.paths, {'a': 13, 'b': 10, 'c': 23})

        def shown(piece=good.piece, price=13, bounds=good.bounds, paths=good.paths):
            altered = bridge(FULL, 'a', 'c', ALL_PRICES)
            altered.piece, altered.price, altered.bounds, altered.paths = piece, price, bounds, paths
            return altered.shows(FULL, 'a', 'c', ALL_PRICES)

        self.assertIs(shown(), True)
        # Lesser values bound prices from below, too, where the told price does not need them.
        self.assertIs(shown(paths=dict(good.paths, c=5)), True)
        ring = Sheet(AB, {'rod': ('a', 'b', 'a', 'b')})
        for piece in (
            Piece(['rod'], []), Piece(['tee'], []), Piece(['cup'], []), Piece(['bow'], []),
            read_piece(FULL, 'tee(2-0 cup, 1-1 tee(2-0 cup))'), read_piece(FULL, 'rod(1-0 tee(2-0 cup))'),
            read_piece(FULL, 'tee(0@1, 2@1)'), Piece(['tee', 'tee'], [((0, 0), (1, 0))]),
            read_piece(FULL, 'tee(0-0 cap)'), read_piece(FULL, 'tee(1-1 tee(0-0 cap, 2-0 cup), 2-0 cup)'),
            read_piece(ring, 'rod(0@1, 1@1)'),
        ):
            self.assertIs(shown(piece=piece), False, piece.blocks)
        for price in (12, 14, 0, -13):
            self.assertIs(shown(price=price), False, price)
        bounds = good.bounds
        for told in (
            {}, {'a': 9, 'b': 6}, dict(bounds, d=None), {'a': 9, 'b': 6, 'd': 19}, dict(bounds, a=10),
            dict(bounds, a=8), dict(bounds, a=None), dict(bounds, a=-9), {'a': 9, 'b': 6, 3: 19},
            dict(bounds, b=7), dict(bounds, b=5), dict(bounds, c=20), dict(bounds, c=None),
        ):
            self.assertIs(shown(bounds=told), False, told)
        paths = good.paths
        for told in (
            {}, {'a': 13, 'b': 10}, dict(paths, d=None), {'a': 13, 'b': 10, 'd': 23}, dict(paths, a=12),
            dict(paths, a=14), dict(paths, a=None), dict(paths, b=None), dict(paths, c=None), dict(paths, b=11),
            dict(paths, c=24), dict(paths, b=-1), dict(paths, a=-13), {'a': 13, 'b': 10, 3: 23},
        ):
            self.assertIs(shown(paths=told), False, told)
        # These bound all prices from below, but the told one is greater.
        self.assertIs(shown(paths={'a': 12, 'b': 10, 'c': 22}), False)
        self.assertIs(good.shows(FULL, 'c', 'a', ALL_PRICES), False)
        self.assertIs(good.shows(FULL, 'a', 'b', ALL_PRICES), False)
        self.assertIs(good.shows(FULL, 'a', 'c', dict(ALL_PRICES, cup=8)), False)

    def test_shows_where_all_pieces_cost_alike(self):
        prices = {name: 0 for name in FULL}
        good = bridge(FULL, 'a', 'c', prices)
        for told, wanted in (
            ('tee(2-0 cup)', True), ('tee(2-0 rod(1-0 cup))', True), ('rod(1-0 tee(2-0 cup))', True),
            ('tee(1-1 tee(0-0 cap, 2-0 cup), 2-0 cup)', False), ('rod', False), ('tee', False), ('cup', False),
            ('tee(0-0 cap)', False), ('tee(1-1 tee(2-0 cup), 2-0 cup)', False), ('tee(0@1, 2@1)', False),
            ('tee(1-1 tee(2-0 cup))', False), ('cup(0-1 rod(0-0 cap))', False),
            ('tee(1@1, 2-0 tee(1@1, 2-0 cup))', False),
        ):
            good.piece = read_piece(FULL, told)
            self.assertIs(good.shows(FULL, 'a', 'c', prices), wanted, told)
        dear = {name: 1 for name in SHEET}
        good = bridge(SHEET, 'a', 'b', dear)
        self.assertTrue(good.shows(SHEET, 'a', 'b', dear))
        good.price = True
        self.assertIs(good.shows(SHEET, 'a', 'b', dear), False)

    def test_equal_and_copied(self):
        piece, bounds, paths = Piece(['rod'], []), {'a': 1}, {'a': 2}
        one = Bridge(piece, 3, bounds, paths)
        self.assertEqual(one, Bridge(Piece(('rod',), ()), 3, {'a': 1}, {'a': 2}))
        for other in (
            Bridge(Piece(['cup'], []), 3, bounds, paths), Bridge(piece, 4, bounds, paths), Bridge(piece, 3, {}, paths),
            Bridge(piece, 3, bounds, {}), piece,
        ):
            self.assertNotEqual(one, other)
        bounds['b'] = 1
        paths.clear()
        piece.blocks = ('cup',)
        self.assertEqual(one, Bridge(Piece(('rod',), ()), 3, {'a': 1}, {'a': 2}))

    def test_errors(self):
        piece = Piece(['rod'], [])
        for ask in (bridge, Bridge(piece, 0, {}, {}).shows):
            with self.assertRaises(BadSheet):
                ask(None, 'z', 'z', None)
            for kind in ('z', '', 'rod', None, 3, True, ['a']):
                with self.assertRaises(BadKind):
                    ask(SHEET, kind, 'a', None)
                with self.assertRaises(BadKind):
                    ask(SHEET, 'a', kind, None)
            for prices in BAD_PRICES:
                with self.assertRaises(BadPrices):
                    ask(SHEET, 'a', 'c', prices)
        with self.assertRaises(NoBridge):
            bridge(Sheet(ABC, {}), 'a', 'a', {})
