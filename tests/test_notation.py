import unittest

from endsmeet.errors import BadPiece, BadSheet, BadText, TooLarge
from endsmeet.notation import read_piece, write_piece
from endsmeet.pieces import Piece
from endsmeet.sameness import same
from endsmeet.sheets import Sheet
from tests.support import ABC, random_piece, random_sheet, ring, seeded

SHEET = Sheet(ABC, {'rod': ('a', 'b'), 'cup': ('a', 'b', 'c'), 'cap': ('c',), 'box': ('c', 'c', 'c', 'c')})


def ladder(many):
    """A chain of boxes whose neighbours share two links; it has one ring less than copies."""
    links = []
    for copy in range(many - 1):
        links.append(((copy, 0), (copy + 1, 1)))
        links.append(((copy, 2), (copy + 1, 3)))
    return Piece(['box'] * many, sorted(links))


class Reading(unittest.TestCase):
    def test_ordinary(self):
        self.assertEqual(read_piece(SHEET, 'rod'), Piece(['rod'], []))
        self.assertEqual(read_piece(SHEET, 'rod(0@1,1@1)'), Piece(['rod'], [((0, 0), (0, 1))]))
        self.assertEqual(
            read_piece(SHEET, 'cup(1-0 rod(1-0 rod), 2-0 cap)'),
            Piece(['cup', 'rod', 'rod', 'cap'], [((0, 1), (1, 0)), ((0, 2), (3, 0)), ((1, 1), (2, 0))]),
        )
        self.assertEqual(
            read_piece(SHEET, 'box(3-0 box(1@99,3@7),0@99,1@7)'),
            Piece(['box', 'box'], [((0, 0), (1, 1)), ((0, 1), (1, 3)), ((0, 3), (1, 0))]),
        )

    def test_blanks(self):
        told = '  cup ( 0 - 1 rod ( 0 @ 1 ) ,1@1 )  '
        self.assertEqual(read_piece(SHEET, told), read_piece(SHEET, 'cup(0-1rod(0@1),1@1)'))

    def test_deep(self):
        told = '(1-0 rod'.join(['rod'] + [''] * 199) + ')' * 199
        piece = read_piece(SHEET, told)
        self.assertEqual((len(piece), len(piece.links)), (200, 199))
        self.assertEqual(write_piece(SHEET, piece), told)

    def bad(self, told, column):
        with self.assertRaises(BadText, msg=told) as caught:
            read_piece(SHEET, told)
        self.assertEqual((caught.exception.line, caught.exception.column), (1, column), told)

    def test_bad_names(self):
        self.bad('', 1)
        self.bad('   ', 4)
        self.bad('bow', 1)
        self.bad('  bow', 3)
        self.bad('a', 1)
        self.bad('rodrodrodrod', 1)
        self.bad('Rod', 1)
        self.bad('roD', 1)
        self.bad('rod!', 4)
        self.bad('rod\n', 4)
        self.bad('rod\t', 4)
        self.bad('\u00e9', 1)
        self.bad('5', 1)
        self.bad('(', 1)

    def test_bad_parts(self):
        self.bad('rod rod', 5)
        self.bad('rod)', 4)
        self.bad('rod,', 4)
        self.bad('rod()', 5)
        self.bad('rod(', 5)
        self.bad('rod( ', 6)
        self.bad('rod(0', 6)
        self.bad('rod(0)', 6)
        self.bad('rod(0-', 7)
        self.bad('rod(0-1', 8)
        self.bad('rod(0-1)', 8)
        self.bad('rod(0-1 rod', 12)
        self.bad('rod(0-1 rod,', 13)
        self.bad('rod(0-1 rod,)', 13)
        self.bad('rod(0-1 rod))', 13)
        self.bad('rod(0-1 rod)(1-0 rod)', 13)
        self.bad('rod(0@1,1@1)(', 13)
        self.bad('rod(rod', 5)
        self.bad('rod(0,', 6)
        self.bad('rod(0(', 6)

    def test_bad_ends(self):
        self.bad('rod(2', 5)
        self.bad('rod(00', 5)
        self.bad('rod(4', 5)
        self.bad('rod(' + '1' * 5000 + '-0 rod)', 5)
        self.bad('rod(0-1 rod, 0-1 rod)', 14)
        self.bad('rod(0-1 rod(1-0 rod))', 13)
        self.bad('rod(0-4 rod)', 7)
        self.bad('rod(0-01 rod)', 7)
        self.bad('rod(0-' + '9' * 5000 + ' rod)', 7)
        self.bad('rod(0-x rod)', 7)
        self.bad('rod(0-0 rod)', 9)
        self.bad('rod(0-2 rod)', 9)
        self.bad('rod(0-2 cup)', 9)
        self.bad('rod(0-1 bow)', 9)
        self.bad('rod(0-1 1)', 9)
        self.bad('cap(0-0 cap(', 13)
        self.bad('cap(0-0 cap(0', 13)
        self.bad('rod(0-1 rod, 1-0 rod, 1', 23)

    def test_bad_marks(self):
        self.bad('rod(0@', 7)
        self.bad('rod(0@0', 7)
        self.bad('rod(0@01', 7)
        self.bad('rod(0@100', 7)
        self.bad('rod(0@' + '1' * 5000, 7)
        self.bad('rod(0@x', 7)
        self.bad('rod(0@1)', 9)
        self.bad('rod(0@1)  ', 11)
        self.bad('rod(0@1', 8)
        self.bad('rod(0@1, 1@2)', 14)
        self.bad('cup(0@1, 2@1)', 12)
        self.bad('box(0@1, 1@1, 2@1)', 17)
        self.bad('rod(0@1-', 8)
        self.bad('box(0@1(2@2', 8)
        self.bad('box(0-0 box, 1@1(2@1', 17)

    def test_marks_up_to_99(self):
        self.assertEqual(read_piece(SHEET, 'box(0@99, 3@99)'), Piece(['box'], [((0, 0), (0, 3))]))
        piece = ladder(100)
        told = write_piece(SHEET, piece)
        self.assertIn('@99', told)
        self.assertIsNotNone(same(SHEET, piece, read_piece(SHEET, told)))
        with self.assertRaises(TooLarge):
            write_piece(SHEET, ladder(101))

    def test_not_a_string(self):
        for told in (None, 5, ['rod'], b'rod', True):
            with self.assertRaises(BadText) as caught:
                read_piece(SHEET, told)
            self.assertEqual((caught.exception.line, caught.exception.column), (0, 0))

    def test_too_large(self):
        self.bad(' '.join(['rod'] * 200), 5)
        for told in (' '.join(['rod'] * 201), '!' + ' '.join(['rod'] * 201), 'bow ' * 200 + 'rod'):
            with self.assertRaises(TooLarge):
                read_piece(SHEET, told)
        self.bad('rod(' + '1 ' * 300, 7)

    def test_bad_sheet(self):
        for told in (None, 'rod'):
            with self.assertRaises(BadSheet):
                read_piece('sheet', told)
            with self.assertRaises(BadSheet):
                write_piece('sheet', told)


class Writing(unittest.TestCase):
    def test_ordinary(self):
        for told in (
            'rod', 'rod(0@1, 1@1)', 'cup(0-1 rod(0@1), 1@1)', 'cup(1-0 rod(1-0 rod), 2-0 cap)',
            'box(0-2 box(0@1, 1@2, 3@3), 1@1, 2@2, 3@3)', 'box(0@1, 1@1, 2@2, 3@2)',
            'cap(0-2 cup(0-1 cup(2-3 box(0-0 cap, 1@1, 2@1)), 1-0 rod))',
        ):
            self.assertEqual(write_piece(SHEET, read_piece(SHEET, told)), told)

    def test_begins_with_copy_0(self):
        piece = Piece(['rod', 'cup'], [((0, 0), (1, 1)), ((0, 1), (1, 0))])
        self.assertEqual(write_piece(SHEET, piece), 'rod(0-1 cup(0@1), 1@1)')

    def test_links_to_copies_that_have_not_begun_come_first(self):
        piece = read_piece(SHEET, 'box(0@1, 1-0 box(1@2, 2@1, 3@3), 2@2, 3@3)')
        self.assertEqual(write_piece(SHEET, piece), 'box(0-2 box(0@1, 1@2, 3@3), 1@1, 2@2, 3@3)')

    def test_marks_are_numbered_by_first_places(self):
        piece = read_piece(SHEET, 'box(0@9, 1@5, 2@5, 3@9)')
        self.assertEqual(write_piece(SHEET, piece), 'box(0@1, 1@2, 2@2, 3@1)')

    def test_ring_of_200(self):
        told = write_piece(SHEET, ring('rod', 200))
        self.assertEqual(told[:16], 'rod(0-1 rod(0-1 ')
        self.assertIsNotNone(same(SHEET, read_piece(SHEET, told), ring('rod', 200)))

    def test_written_texts_tell_the_piece(self):
        rnd = seeded(1)
        for _ in range(150):
            sheet = random_sheet(rnd)
            piece = random_piece(rnd, sheet, rnd.randint(1, 9), 4)
            told = write_piece(sheet, piece)
            again = read_piece(sheet, told)
            self.assertEqual(write_piece(sheet, again), told)
            self.assertTrue(same(sheet, piece, again).shows(sheet, piece, again))

    def test_bad_pieces(self):
        for piece in (None, 'rod', Piece(['bow'], []), Piece(['rod', 'rod'], [((0, 0), (1, 0))])):
            with self.assertRaises(BadPiece):
                write_piece(SHEET, piece)
