import unittest

from endsmeet.errors import BadPiece, BadSheet
from endsmeet.pieces import Piece, amounts_of, free_ends, is_piece_of, rings
from endsmeet.sheets import Sheet
from tests.support import ABC, ring

SHEET = Sheet(ABC, {'rod': ('a', 'b'), 'cup': ('a', 'b', 'c'), 'cap': ('c',), 'box': ('c', 'c', 'c', 'c')})


class Pieces(unittest.TestCase):
    def test_ordinary(self):
        piece = Piece(['cup', 'rod'], [((0, 0), (1, 1)), ((0, 1), (1, 0))])
        self.assertEqual(piece.blocks, ('cup', 'rod'))
        self.assertEqual(piece.links, (((0, 0), (1, 1)), ((0, 1), (1, 0))))
        self.assertEqual(len(piece), 2)
        self.assertIs(is_piece_of(SHEET, piece), True)
        self.assertEqual(free_ends(SHEET, piece), [(0, 2)])
        self.assertEqual(rings(SHEET, piece), 1)
        self.assertEqual(amounts_of(SHEET, piece), {'cup': 1, 'rod': 1})

    def test_one_copy(self):
        piece = Piece(('cup',), ())
        self.assertEqual(free_ends(SHEET, piece), [(0, 0), (0, 1), (0, 2)])
        self.assertEqual(rings(SHEET, piece), 0)
        piece = Piece(['rod'], [((0, 0), (0, 1))])
        self.assertTrue(is_piece_of(SHEET, piece))
        self.assertEqual((free_ends(SHEET, piece), rings(SHEET, piece)), ([], 1))
        piece = Piece(['box'], [((0, 0), (0, 3)), ((0, 1), (0, 2))])
        self.assertTrue(is_piece_of(SHEET, piece))
        self.assertEqual((free_ends(SHEET, piece), rings(SHEET, piece)), ([], 2))

    def test_amounts_ascend(self):
        links = [((0, 0), (1, 1)), ((1, 0), (2, 1)), ((2, 0), (3, 1))]
        found = amounts_of(SHEET, Piece(['rod', 'cup', 'rod', 'cup'], links))
        self.assertEqual(list(found.items()), [('cup', 2), ('rod', 2)])

    def test_200_copies_and_one_more(self):
        piece = ring('rod', 200)
        self.assertEqual((len(piece), rings(SHEET, piece), free_ends(SHEET, piece)), (200, 1, []))
        self.assertEqual(amounts_of(SHEET, piece), {'rod': 200})
        with self.assertRaises(BadPiece):
            ring('rod', 201)

    def test_equal(self):
        one = Piece(['rod', 'rod'], [((0, 0), (1, 1))])
        self.assertEqual(one, Piece(('rod', 'rod'), (((0, 0), (1, 1)),)))
        self.assertNotEqual(one, Piece(['rod', 'rod'], [((0, 1), (1, 0))]))
        self.assertNotEqual(one, Piece(['rod', 'cup'], [((0, 0), (1, 1))]))
        self.assertNotEqual(one, (('rod', 'rod'), (((0, 0), (1, 1)),)))

    def test_bad_blocks(self):
        for blocks in (None, 'rod', {'rod': 1}, [], (), ['Rod'], [''], ['abcdefghi'], [1], [True], [None], [['rod']]):
            with self.assertRaises(BadPiece, msg=blocks):
                Piece(blocks, [])
        self.assertEqual(Piece(['abcdefgh'], []).blocks, ('abcdefgh',))

    def test_bad_links(self):
        two = ['rod', 'rod']
        good = ((0, 0), (1, 1))
        for links in (
            None, 'links', {}, {good: 1}, 5, [None], [()], [[(0, 0), (1, 1)]], [([0, 0], (1, 1))],
            [((0, 0), [1, 1])], [((0, 0), (1, 1), (1, 2))], [((0, 0),)], [((0, 0, 0), (1, 1))],
            [((1, 1), (0, 0))], [((0, 0), (0, 0))], [((0, 0), (2, 1))], [((-1, 0), (1, 1))],
            [((0, 4), (1, 1))], [((0, -1), (1, 1))], [((0, 0), (1, 4))], [((False, 0), (1, 1))],
            [((0, 0), (True, 1))], [((0, False), (1, 1))], [((0, 0), (1, True))], [(('0', 0), (1, 1))],
            [good, good], [((0, 0), (1, 1)), ((0, 0), (1, 2))], [((0, 1), (1, 0)), ((0, 0), (1, 1))],
            [((0, 0), (1, 1)), ((0, 1), (1, 1))], [((0, 0), (0, 1))], [],
        ):
            with self.assertRaises(BadPiece, msg=links):
                Piece(two, links)

    def test_ends_0_and_3(self):
        piece = Piece(['box', 'box'], [((0, 0), (1, 3)), ((0, 3), (1, 0))])
        self.assertEqual(free_ends(SHEET, piece), [(0, 1), (0, 2), (1, 1), (1, 2)])

    def test_pieces_of_another_sheet(self):
        for piece in (
            Piece(['bow'], []), Piece(['cap'], [((0, 0), (0, 1))]), Piece(['rod', 'rod'], [((0, 0), (1, 0))]),
            Piece(['cap', 'rod'], [((0, 0), (1, 0))]), Piece(['rod', 'rod'], [((0, 0), (1, 2))]),
            Piece(['rod', 'box'], [((0, 2), (1, 0))]), Piece(['cap', 'box'], [((0, 1), (1, 0))]),
        ):
            self.assertIs(is_piece_of(SHEET, piece), False)
            for ask in (free_ends, rings, amounts_of):
                with self.assertRaises(BadPiece):
                    ask(SHEET, piece)

    def test_pieces_that_were_changed(self):
        for blocks, links in (
            (('rod', 'rod'), ()), (('rod',), (((0, 0), (1, 1)),)), (('rod', 'ROD'), (((0, 0), (1, 1)),)), ((), ()),
        ):
            piece = Piece(['rod', 'rod'], [((0, 0), (1, 1))])
            piece.blocks, piece.links = blocks, links
            self.assertIs(is_piece_of(SHEET, piece), False)

    def test_no_pieces(self):
        for thing in (None, 'cup', ('rod',), ['rod'], 3, {}, SHEET):
            self.assertIs(is_piece_of(SHEET, thing), False)
            for ask in (free_ends, rings, amounts_of):
                with self.assertRaises(BadPiece):
                    ask(SHEET, thing)

    def test_bad_sheet_comes_first(self):
        for ask in (is_piece_of, free_ends, rings, amounts_of):
            for sheet in (None, 'sheet', {}, Piece(['rod'], [])):
                with self.assertRaises(BadSheet):
                    ask(sheet, None)

    def test_arguments_are_copied_and_answers_new(self):
        blocks, links = ['rod', 'rod'], [((0, 0), (1, 1))]
        piece = Piece(blocks, links)
        self.assertEqual((blocks, links), (['rod', 'rod'], [((0, 0), (1, 1))]))
        blocks.append('cup')
        links.clear()
        self.assertEqual(piece, Piece(['rod', 'rod'], [((0, 0), (1, 1))]))
        free_ends(SHEET, piece).append(1)
        self.assertEqual(free_ends(SHEET, piece), [(0, 1), (1, 0)])
        amounts_of(SHEET, piece).clear()
        self.assertEqual(amounts_of(SHEET, piece), {'rod': 2})
