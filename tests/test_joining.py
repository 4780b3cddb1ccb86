import unittest

from endsmeet.errors import BadAmounts, BadLinks, BadSheet, NotBalanced, TooLarge
from endsmeet.joining import excess, is_whole_piecing, joined, pieces_of
from endsmeet.pieces import Piece, is_piece_of
from endsmeet.sheets import Sheet
from tests.support import ABC, all_amounts, has_piecing, parts, piecings, random_sheet, ring, seeded

SHEET = Sheet(ABC, {'rod': ('a', 'b'), 'cup': ('b',), 'fork': ('a', 'a'), 'cap': ('c',), 'tee': ('c', 'a', 'c')})
BAD_AMOUNTS = (
    None, [], 'rod', 5, {'bow': 1}, {'rod': -1}, {'rod': True}, {'rod': False}, {'rod': '1'}, {'rod': None},
    {'rod': [1]}, {1: 1}, {None: 0}, {('rod',): 1}, {'a': 0}, [('rod', 1)], {'rod': 1, 'bow': 0},
)


class Excess(unittest.TestCase):
    def test_ordinary(self):
        self.assertEqual(excess(SHEET, {}), {'a': 0, 'c': 0})
        self.assertEqual(excess(SHEET, {'cup': 6, 'fork': 7}), {'a': 8, 'c': 0})
        self.assertEqual(excess(SHEET, {'cup': 6}), {'a': -6, 'c': 0})
        self.assertEqual(excess(SHEET, {'tee': 1, 'cap': 5}), {'a': 1, 'c': 1})
        self.assertEqual(excess(SHEET, {'rod': 10 ** 30, 'cap': 10 ** 30 + 1}), {'a': 0, 'c': 1})

    def test_keys_ascend(self):
        self.assertEqual(list(excess(SHEET, {'tee': 1})), ['a', 'c'])
        self.assertEqual(list(excess(Sheet({'z': 'z', 'b': 'y', 'y': 'b', 'a': 'a'}, {}), {})), ['a', 'b', 'z'])


class Joined(unittest.TestCase):
    def test_held_against_plain_counting(self):
        rnd = seeded(7)
        for _ in range(40):
            sheet = random_sheet(rnd)
            for amounts in all_amounts(sheet.names(), 2):
                if has_piecing(sheet, amounts):
                    links = joined(sheet, amounts)
                    self.assertIs(is_whole_piecing(sheet, amounts, links), True)
                    self.assertEqual(set(excess(sheet, amounts).values()), {0})
                else:
                    with self.assertRaises(NotBalanced):
                        joined(sheet, amounts)
                    self.assertNotEqual(set(excess(sheet, amounts).values()), {0})

    def test_each_piecing_is_one(self):
        amounts = {'fork': 1, 'cup': 2, 'rod': 1, 'cap': 2}
        found = list(piecings(SHEET, amounts))
        self.assertEqual(len(found), 6)
        for links in found:
            self.assertIs(is_whole_piecing(SHEET, amounts, links), True)

    def test_no_copies(self):
        for amounts in ({}, {'rod': 0}):
            self.assertEqual(joined(SHEET, amounts), [])
            self.assertIs(is_whole_piecing(SHEET, amounts, []), True)
            self.assertEqual(pieces_of(SHEET, amounts, []), [])

    def test_great_amounts(self):
        links = joined(SHEET, {'rod': 5000})
        self.assertEqual(len(links), 5000)
        self.assertTrue(is_whole_piecing(SHEET, {'rod': 5000}, links))
        self.assertFalse(is_whole_piecing(SHEET, {'rod': 10 ** 30}, []))

    def test_no_whole_piecings(self):
        amounts = {'rod': 2}
        one, two = ((0, 0), (0, 1)), ((1, 0), (1, 1))
        self.assertTrue(is_whole_piecing(SHEET, amounts, [one, two]))
        for links in (
            None, 5, 'links', (one, two), {one: two}, [], [one], [two, one], [one, one], [one, two, two],
            [one, None], [one, ((1, 1), (1, 0))], [one, ((1, 0), (1, 0))], [one, ((1, 0), (2, 1))],
            [one, ((1, 0), (1, 2))], [one, [(1, 0), (1, 1)]], [one, ([1, 0], (1, 1))], [one, ((True, 0), (1, 1))],
            [one, ((1, 0), (1, True))], [one, ((1, False), (1, 1))], [((0, 0), (1, 0)), ((0, 1), (1, 1))],
            [one, ((1, 0), (1, 1), (1, 1))], [one, ((1, 0), (1, -1))], [['a'], {}], [one, 'ab'],
            [((0, 0), (1, 1)), ((0, 0), (1, 1))], [((0, 0), (0, 1)), ((0, 1), (1, 0))],
            [((0, 0), (1, 1)), ((0, 2), (1, 0))],
        ):
            self.assertIs(is_whole_piecing(SHEET, amounts, links), False, links)
        self.assertIs(is_whole_piecing(SHEET, {'cup': 1}, []), False)

    def test_new(self):
        links = joined(SHEET, {'rod': 2})
        links.clear()
        self.assertEqual(len(joined(SHEET, {'rod': 2})), 2)


class PiecesOf(unittest.TestCase):
    def test_ordinary(self):
        # The copies are cup 0, cup 1, fork 2, rod 3.
        amounts = {'rod': 1, 'fork': 1, 'cup': 2}
        links = [((0, 0), (2, 1)), ((1, 0), (2, 0)), ((3, 0), (3, 1))]
        self.assertEqual(pieces_of(SHEET, amounts, links), [
            Piece(['cup', 'cup', 'fork'], [((0, 0), (2, 1)), ((1, 0), (2, 0))]),
            Piece(['rod'], [((0, 0), (0, 1))]),
        ])

    def test_numbers_in_order(self):
        # The copies of the second piece are 1 and 2, those of the first one 0 and 3.
        links = [((0, 0), (3, 1)), ((0, 1), (3, 0)), ((1, 0), (2, 1)), ((1, 1), (2, 0))]
        self.assertEqual(pieces_of(SHEET, {'rod': 4}, links), [ring('rod', 2), ring('rod', 2)])

    def test_held_against_plain_counting(self):
        rnd = seeded(8)
        for _ in range(15):
            sheet = random_sheet(rnd)
            for amounts in all_amounts(sheet.names(), 1):
                for links in piecings(sheet, amounts):
                    found = pieces_of(sheet, amounts, links)
                    self.assertEqual(
                        [len(piece) for piece in found],
                        [len(part) for part in parts(sum(amounts.values()), links)],
                    )
                    self.assertTrue(all(is_piece_of(sheet, piece) for piece in found))

    def test_too_large(self):
        self.assertEqual(len(pieces_of(SHEET, {'rod': 200}, list(ring('rod', 200).links))), 1)
        links = [((0, 0), (200, 1))] + [((0, 1), (1, 0))]
        links = sorted(links + [((copy, 1), (copy + 1, 0)) for copy in range(1, 200)])
        self.assertTrue(is_whole_piecing(SHEET, {'rod': 201}, links))
        with self.assertRaises(TooLarge):
            pieces_of(SHEET, {'rod': 201}, links)
        self.assertEqual(len(pieces_of(SHEET, {'rod': 300}, joined(SHEET, {'rod': 300}))), 300)

    def test_bad_links(self):
        for links in (None, [], (((0, 0), (0, 1)),), [((0, 1), (0, 0))]):
            with self.assertRaises(BadLinks):
                pieces_of(SHEET, {'rod': 1}, links)
        with self.assertRaises(BadLinks):
            pieces_of(SHEET, {'cup': 1}, [])


class Arguments(unittest.TestCase):
    def test_errors(self):
        for bad in BAD_AMOUNTS:
            for ask in (
                lambda sheet, amounts: excess(sheet, amounts),
                lambda sheet, amounts: joined(sheet, amounts),
                lambda sheet, amounts: is_whole_piecing(sheet, amounts, None),
                lambda sheet, amounts: pieces_of(sheet, amounts, None),
            ):
                with self.assertRaises(BadAmounts, msg=bad):
                    ask(SHEET, bad)
                with self.assertRaises(BadSheet):
                    ask(None, bad)

    def test_not_changed(self):
        amounts = {'rod': 1, 'fork': 1, 'cup': 2}
        links = joined(SHEET, amounts)
        kept = list(links)
        excess(SHEET, amounts)
        is_whole_piecing(SHEET, amounts, links)
        pieces_of(SHEET, amounts, links)
        self.assertEqual((list(amounts.items()), links), ([('rod', 1), ('fork', 1), ('cup', 2)], kept))
