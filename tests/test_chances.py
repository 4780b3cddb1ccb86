import unittest

from endsmeet.chances import chance_of_one, expected_of, expected_pieces, ways, ways_in_one
from endsmeet.errors import BadAmounts, BadPiece, BadSheet, NotBalanced, NotClosed, TooLarge
from endsmeet.joining import pieces_of
from endsmeet.notation import read_piece
from endsmeet.pieces import Piece
from endsmeet.sameness import same
from endsmeet.sheets import Sheet
from tests.support import AB, all_amounts, fraction, has_piecing, parts, piecings, random_sheet, ring, seeded
from tests.test_joining import BAD_AMOUNTS

ROUND = Sheet({'c': 'c'}, {'rod': ('c', 'c'), 'cap': ('c',), 'box': ('c', 'c', 'c', 'c')})
ROWS = Sheet(AB, {'rod': ('a', 'b'), 'cup': ('a',), 'cap': ('b',), 'two': ('b', 'b')})
RING = read_piece(ROUND, 'rod(0@1, 1@1)')


class Chances(unittest.TestCase):
    def test_ordinary(self):
        amounts = {'rod': 3}
        self.assertEqual(ways(ROUND, amounts), 15)
        self.assertEqual(ways_in_one(ROUND, amounts), 8)
        self.assertEqual(chance_of_one(ROUND, amounts), (8, 15))
        self.assertEqual(expected_pieces(ROUND, amounts), (23, 15))
        self.assertEqual(expected_of(ROUND, amounts, RING), (3, 5))
        self.assertEqual(chance_of_one(ROUND, {'rod': 1, 'cap': 0}), (1, 1))
        self.assertEqual(chance_of_one(ROUND, {'cap': 4}), (0, 1))
        self.assertEqual(expected_pieces(ROUND, {'cap': 4}), (2, 1))

    def test_held_against_plain_counting(self):
        rnd = seeded(60)
        checked = 0
        while checked < 120:
            sheet = random_sheet(rnd, rnd.randint(1, 3), rnd.randint(1, 3))
            for amounts in all_amounts(sheet.names(), 3):
                ends = sum(many * len(sheet.ends(name)) for name, many in amounts.items())
                if not any(amounts.values()) or ends > 10:
                    continue
                if not has_piecing(sheet, amounts):
                    self.assertEqual((ways(sheet, amounts), ways_in_one(sheet, amounts)), (0, 0))
                    continue
                copies = sum(amounts.values())
                numbers = [len(parts(copies, links)) for links in piecings(sheet, amounts)]
                self.assertEqual(ways(sheet, amounts), len(numbers))
                self.assertEqual(ways_in_one(sheet, amounts), numbers.count(1))
                self.assertEqual(chance_of_one(sheet, amounts), fraction(numbers.count(1), len(numbers)))
                self.assertEqual(expected_pieces(sheet, amounts), fraction(sum(numbers), len(numbers)))
                checked += 1

    def test_expected_of_held_against_plain_counting(self):
        rnd = seeded(61)
        checked = 0
        while checked < 60:
            sheet = random_sheet(rnd, rnd.randint(1, 2), rnd.randint(1, 3))
            for amounts in all_amounts(sheet.names(), 2):
                ends = sum(many * len(sheet.ends(name)) for name, many in amounts.items())
                if not any(amounts.values()) or ends > 8 or not has_piecing(sheet, amounts):
                    continue
                found = [pieces_of(sheet, amounts, links) for links in piecings(sheet, amounts)]
                for told in found[-1]:
                    many = sum(same(sheet, told, piece) is not None for pieces in found for piece in pieces)
                    self.assertEqual(expected_of(sheet, amounts, told), fraction(many, len(found)))
                    checked += 1

    def test_expected_of_pieces_that_need_more(self):
        self.assertEqual(expected_of(ROUND, {'rod': 1}, ring('rod', 2)), (0, 1))
        self.assertEqual(expected_of(ROUND, {'cap': 2}, RING), (0, 1))
        self.assertEqual(expected_of(ROUND, {'rod': 2}, ring('rod', 2)), (2, 3))

    def test_great_amounts(self):
        self.assertEqual(ways(ROWS, {'rod': 25}), 15511210043330985984000000)
        self.assertEqual(ways(ROUND, {'cap': 12}), 11 * 9 * 7 * 5 * 3)
        many = 10 ** 30
        self.assertEqual(expected_of(ROWS, {'rod': many}, read_piece(ROWS, 'rod(0@1, 1@1)')), (1, 1))
        self.assertEqual(expected_of(ROUND, {'rod': many}, RING), fraction(many, 2 * many - 1))
        self.assertEqual(expected_of(ROWS, {'rod': 200}, ring('rod', 200)), (1, 200))

    def test_bounds(self):
        self.assertEqual(chance_of_one(ROWS, {'rod': 999}), (1, 999))
        above, below = expected_pieces(ROWS, {'rod': 999})
        self.assertEqual(above * 1000 // below, 7484)
        factorial = 1
        for many in range(1, 999):
            factorial *= many
        self.assertEqual(ways_in_one(ROWS, {'rod': 999}), factorial)
        self.assertEqual(ways_in_one(ROUND, {'rod': 999}), factorial << 998)
        self.assertEqual(ways_in_one(ROWS, {'cup': 24, 'cap': 38}), 0)
        self.assertEqual(ways_in_one(ROUND, {'cap': 999}), 0)
        for amounts in ({'rod': 1000}, {'cup': 25, 'cap': 25, 'rod': 1}, {'rod': 10 ** 40}):
            for ask in (ways_in_one, chance_of_one, expected_pieces):
                with self.assertRaises(TooLarge):
                    ask(ROWS, amounts)
        self.assertEqual(expected_pieces(ROWS, {'cup': 21, 'cap': 21, 'rod': 1}), fraction(21 * 22 + 1, 22))

    def test_errors_in_order(self):
        unbalanced = {'cup': 5000}
        with self.assertRaises(TooLarge):
            ways_in_one(ROWS, unbalanced)
        self.assertEqual(ways(ROWS, unbalanced), 0)
        for ask in (chance_of_one, expected_pieces):
            with self.assertRaises(NotBalanced):
                ask(ROWS, unbalanced)
        closed = read_piece(ROWS, 'rod(0@1, 1@1)')
        for piece in (None, 'rod', Piece(['bow'], []), Piece(['rod', 'rod'], [((0, 0), (1, 0))])):
            with self.assertRaises(BadPiece):
                expected_of(ROWS, unbalanced, piece)
        with self.assertRaises(NotClosed):
            expected_of(ROWS, unbalanced, Piece(['rod'], []))
        with self.assertRaises(NotBalanced):
            expected_of(ROWS, unbalanced, closed)
        for bad in BAD_AMOUNTS + ({}, {'rod': 0}):
            for ask in (ways, ways_in_one, chance_of_one, expected_pieces):
                with self.assertRaises(BadAmounts, msg=bad):
                    ask(ROUND, bad)
                with self.assertRaises(BadSheet):
                    ask(None, bad)
            with self.assertRaises(BadAmounts):
                expected_of(ROUND, bad, None)
            with self.assertRaises(BadSheet):
                expected_of(None, bad, None)

    def test_arguments_are_not_changed(self):
        amounts = {'rod': 2, 'cap': 2}
        for ask in (ways, ways_in_one, chance_of_one, expected_pieces):
            ask(ROUND, amounts)
        expected_of(ROUND, amounts, RING)
        self.assertEqual(list(amounts.items()), [('rod', 2), ('cap', 2)])
        self.assertIsInstance(chance_of_one(ROUND, amounts), tuple)
