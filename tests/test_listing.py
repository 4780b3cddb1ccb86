import unittest

from endsmeet.chances import ways, ways_in_one
from endsmeet.errors import BadAmounts, BadSheet, TooLarge
from endsmeet.joining import pieces_of
from endsmeet.listing import closed_pieces
from endsmeet.pieces import amounts_of, free_ends, is_piece_of
from endsmeet.sameness import same, turns
from endsmeet.sheets import Sheet
from tests.support import AB, ABC, all_amounts, are_same, parts, piecings, random_sheet, seeded
from tests.test_joining import BAD_AMOUNTS

SHEET = Sheet(ABC, {'rod': ('a', 'b'), 'cup': ('b',), 'fork': ('a', 'a'), 'cap': ('c',), 'tee': ('c', 'a', 'c')})
HUBS = Sheet({'c': 'c'}, {'hub': ('c', 'c', 'c'), 'cap': ('c',), 'rod': ('c', 'c')})


def plain_pieces(sheet, amounts):
    """The closed pieces with some amounts, one of each, by comparing all whole piecings with one another."""
    found = []
    for links in piecings(sheet, amounts):
        pieces = pieces_of(sheet, amounts, links)
        if len(pieces) == 1 and not any(same(sheet, pieces[0], other) for other in found):
            found.append(pieces[0])
    return found


def staged_sheet(copies):
    """A sheet of so many blocks in a row, each of which fits but the next one."""
    letters = 'abcdefghijklmnopqrstuvwxyz'
    words = [one + two for one in letters for two in letters][:copies]
    partners = {}
    for word in words[1:]:
        partners['l' + word], partners['r' + word] = 'r' + word, 'l' + word
    blocks = {}
    for at, word in enumerate(words):
        left = ('r' + word,) if at else ()
        right = ('l' + words[at + 1],) if at + 1 < copies else ()
        blocks['x' + word] = left + right
    return Sheet(partners, blocks)


class ClosedPieces(unittest.TestCase):
    def test_ordinary(self):
        # Two hubs with two links or with one between them, and one link of each to itself.
        self.assertEqual(len(closed_pieces(HUBS, {'hub': 2})), 2)
        self.assertEqual(len(closed_pieces(HUBS, {'hub': 2, 'rod': 1})), 3)
        self.assertEqual(len(closed_pieces(HUBS, {'cap': 2, 'rod': 3, 'hub': 0})), 1)
        self.assertEqual(len(closed_pieces(SHEET, {'rod': 6})), 1)

    def test_none(self):
        for amounts in ({'cup': 1}, {'cup': 4, 'fork': 2}, {'rod': 1, 'cap': 2}, {'cap': 199}):
            self.assertEqual(closed_pieces(SHEET, amounts), [])

    def test_held_against_plain_counting(self):
        rnd = seeded(80)
        seen = 0
        for _ in range(120):
            sheet = random_sheet(rnd, rnd.randint(1, 3), rnd.randint(1, 3))
            for amounts in all_amounts(sheet.names(), 3):
                if not any(amounts.values()) or not 0 < ways(sheet, amounts) < 110:
                    continue
                found = closed_pieces(sheet, amounts)
                plain = plain_pieces(sheet, amounts)
                self.assertEqual(len(found), len(plain))
                for piece in found:
                    self.assertTrue(is_piece_of(sheet, piece))
                    self.assertEqual(free_ends(sheet, piece), [])
                    self.assertEqual(amounts_of(sheet, piece), {name: many for name, many in amounts.items() if many})
                for other in plain:
                    self.assertEqual(len([piece for piece in found if same(sheet, piece, other)]), 1)
                seen += len(found) > 1
        self.assertGreater(seen, 20)

    def test_sameness_by_plain_search(self):
        rnd = seeded(81)
        for _ in range(60):
            sheet = random_sheet(rnd, rnd.randint(1, 2), rnd.randint(1, 2), 3)
            amounts = {name: rnd.randint(0, 2) for name in sheet}
            if any(amounts.values()) and 0 < ways(sheet, amounts) < 60:
                found = closed_pieces(sheet, amounts)
                for at, piece in enumerate(found):
                    self.assertFalse([other for other in found[:at] if are_same(sheet, piece, other)])

    def test_numbers_of_whole_piecings(self):
        # Each piece comes of as many whole piecings in one piece as all its maps give, less its turns.
        for amounts in ({'hub': 2, 'cap': 2, 'rod': 1}, {'hub': 3, 'cap': 1}, {'hub': 1, 'cap': 3, 'rod': 2}):
            maps = 1
            for name, many in amounts.items():
                for at in range(many):
                    maps *= (at + 1) * {'hub': 6, 'cap': 1, 'rod': 2}[name]
            in_one = len([1 for links in piecings(HUBS, amounts) if len(parts(sum(amounts.values()), links)) == 1])
            found = closed_pieces(HUBS, amounts)
            self.assertEqual(sum(maps // turns(HUBS, piece) for piece in found), in_one)

    def test_five_thousand_whole_piecings_and_more(self):
        # Six rods have 720 whole piecings; with four bars beside them there are 720 * 7, that is 5040.
        six = Sheet({'a': 'b', 'b': 'a', 'c': 'd', 'd': 'c'}, {'rod': ('a', 'b'), 'bar': ('c', 'd')})
        self.assertEqual(ways(six, {'rod': 6, 'bar': 3}), 4320)
        self.assertEqual(closed_pieces(six, {'rod': 6, 'bar': 3}), [])
        for amounts in ({'rod': 7}, {'rod': 6, 'bar': 4}, {'rod': 200}):
            with self.assertRaises(TooLarge):
                closed_pieces(six, amounts)
        self.assertEqual(len(closed_pieces(six, {'rod': 6})), 1)
        self.assertEqual(ways(HUBS, {'cap': 10}), 945)
        self.assertEqual(closed_pieces(HUBS, {'cap': 10}), [])
        with self.assertRaises(TooLarge):
            closed_pieces(HUBS, {'cap': 12})

    def test_just_as_many_whole_piecings(self):
        # There are 3 * 15 * 105, that is 4725; two copies of a further block double that.
        partners = {'a': 'a', 'b': 'b', 'c': 'c', 'd': 'e', 'e': 'd'}
        sheet = Sheet(partners, {'box': ('a', 'b', 'c'), 'cap': ('c',), 'bar': ('b', 'c'), 'tip': ('d', 'e')})
        amounts = {'box': 4, 'bar': 2, 'cap': 2}
        self.assertEqual(ways(sheet, amounts), 3 * 15 * 105)
        found = closed_pieces(sheet, amounts)
        # The copies can be numbered anew in 24 * 2 * 2 ways; their ends are of unlike kinds.
        self.assertEqual(sum(96 // turns(sheet, piece) for piece in found), ways_in_one(sheet, amounts))
        with self.assertRaises(TooLarge):
            closed_pieces(sheet, dict(amounts, tip=2))

    def test_two_hundred_copies_and_one_more(self):
        for many in (199, 200):
            sheet = staged_sheet(many)
            found = closed_pieces(sheet, {name: 1 for name in sheet})
            self.assertEqual([len(piece) for piece in found], [many])
        sheet = staged_sheet(201)
        with self.assertRaises(TooLarge):
            closed_pieces(sheet, {name: 1 for name in sheet})
        # Without a whole piecing, too.
        with self.assertRaises(TooLarge):
            closed_pieces(SHEET, {'cup': 201})
        with self.assertRaises(TooLarge):
            closed_pieces(SHEET, {'cup': 10 ** 30})
        self.assertEqual(closed_pieces(SHEET, {'cup': 200}), [])

    def test_many_pieces(self):
        letters = 'abcdef'
        partners = {'a': 'b', 'b': 'a'}
        blocks = {'one' + letter: ('a', 'a', 'a') for letter in letters[:2]}
        blocks.update({'two' + letter: ('b',) for letter in letters[:4]})
        blocks['three'] = ('b', 'b')
        sheet = Sheet(partners, blocks)
        amounts = {name: 1 for name in sheet}
        found = closed_pieces(sheet, amounts)
        self.assertEqual(len(found), len(plain_pieces(sheet, amounts)))
        self.assertGreater(len(found), 5)

    def test_errors(self):
        for bad in BAD_AMOUNTS + ({}, {'rod': 0}):
            with self.assertRaises(BadAmounts, msg=bad):
                closed_pieces(SHEET, bad)
            with self.assertRaises(BadSheet):
                closed_pieces(None, bad)
        with self.assertRaises(BadAmounts):
            closed_pieces(SHEET, {'cup': 201, 'bow': 1})

    def test_new(self):
        amounts = {'rod': 2, 'cup': 0}
        closed_pieces(SHEET, amounts).clear()
        self.assertEqual(len(closed_pieces(SHEET, amounts)), 1)
        self.assertEqual(amounts, {'rod': 2, 'cup': 0})
        self.assertEqual(len(closed_pieces(Sheet(AB, {'rod': ('a', 'b')}), {'rod': 1})), 1)
