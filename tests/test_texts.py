import unittest

from endsmeet.errors import BadSheet, BadText
from endsmeet.sheets import Sheet
from endsmeet.texts import read_sheet, write_sheet
from tests.support import ABC, random_sheet, seeded


class ReadSheet(unittest.TestCase):
    def test_ordinary(self):
        sheet = read_sheet('kinds a ~ b, c\nblock star: a a c\nblock rod: a b\n')
        self.assertEqual(sheet, Sheet(ABC, {'star': ('a', 'a', 'c'), 'rod': ('a', 'b')}))
        self.assertEqual(read_sheet('kinds c'), Sheet({'c': 'c'}, {}))
        self.assertEqual(read_sheet('kinds b ~ a'), Sheet({'a': 'b', 'b': 'a'}, {}))

    def test_blanks(self):
        sheet = Sheet(ABC, {'star': ('a', 'a', 'c'), 'rod': ('a', 'b')})
        for told in (
            'kinds a~b,c\nblock star:a a c\nblock rod:a b',
            '  kinds   a  ~  b  ,  c  \n  block   star  :  a   a c  \n block rod : a b   \n',
            'kinds c , a ~b\nblock rod :a  b \nblock star: a a c\n',
        ):
            self.assertEqual(read_sheet(told), sheet, told)

    def test_last_line(self):
        for told in ('kinds c\nblock cap: c', 'kinds c\nblock cap: c\n'):
            self.assertEqual(read_sheet(told), Sheet({'c': 'c'}, {'cap': ('c',)}))
        self.assertEqual(read_sheet('kinds c\n'), read_sheet('kinds c'))

    def test_kinds_and_block_as_names(self):
        sheet = read_sheet('kinds kinds ~ block, c\nblock kinds: block kinds c\nblock block: kinds')
        self.assertEqual(sheet.partner('block'), 'kinds')
        self.assertEqual([sheet.ends(name) for name in sheet], [('kinds',), ('block', 'kinds', 'c')])
        self.assertEqual(write_sheet(sheet), 'kinds block ~ kinds, c\nblock block: kinds\nblock kinds: block kinds c\n')
        # A block may be called as a kind is.
        self.assertEqual(read_sheet('kinds c\nblock c: c').ends('c'), ('c',))

    def test_lengths(self):
        sheet = read_sheet('kinds abcdefgh\nblock ijklmnop: abcdefgh abcdefgh abcdefgh abcdefgh')
        self.assertEqual(sheet.ends('ijklmnop'), ('abcdefgh',) * 4)

    def test_first_line_does_not_fit(self):
        for told, column in (
            ('kind a', 1), ('kindsa', 1), ('Kinds a', 1), ('  kindsa', 3), ('block a: a', 1), ('  block a', 3), ('~', 1),
            ('5', 1), (' \tkinds a', 2), ('kinds', 6), ('kinds  ', 8), ('kinds ,', 7), ('kinds ~ a', 7),
            ('kinds 5', 7), ('kinds A', 7), ('kinds aA', 8), ('kinds a5', 8), ('kinds a ~', 10), ('kinds a ~ ', 11),
            ('kinds a ~ ~', 11), ('kinds a ~ a', 11), ('kinds a b', 9), ('kinds a,', 9), ('kinds a, ', 10),
            ('kinds a,, b', 9), ('kinds a, a', 10), ('kinds a ~ b, b', 14), ('kinds a ~ b, c ~ a', 18),
            ('kinds a ~ b ~ c', 13), ('kinds a:', 8), ('kinds a; b', 8), ('kinds a . b', 9), ('kinds abcdefghi', 7),
            ('kinds a ~ abcdefghi', 11), ('kinds a\t', 8), ('kinds a\r', 8), ('kinds \u00e4', 7), ('kinds a\u00a0', 8),
            ('kinds a ~ b,', 13), ('kinds a ~ b c', 13), ('kinds kinds kinds', 13),
        ):
            for more in ('', '\n', '\nblock x: y\n', '\n\n'):
                self.assertBad(told + more, 1, column)

    def assertBad(self, told, line, column):
        with self.assertRaises(BadText, msg=repr(told)) as caught:
            read_sheet(told)
        self.assertEqual((caught.exception.line, caught.exception.column), (line, column), repr(told))

    def test_block_line_does_not_fit(self):
        for told, column in (
            ('kinds a', 1), ('  kinds a', 3), ('blocks x: a', 1), ('blockx: a', 1), ('x: a', 1), ('block', 6),
            ('block  ', 8), ('block :', 7), ('block x', 8), ('block x  ', 10), ('block x a', 9), ('block x y: a', 9),
            ('block x:', 9), ('block x: ', 10), ('block x: z', 10), ('block x: a z', 12), ('block x: a, b', 11),
            ('block x:: a', 9), ('block x: a a a a a', 18), ('block x: a a a a,', 17), ('block x: ab', 10),
            ('block abcdefghi: a', 7), ('block rod: a', 7), ('block x: a ~ b', 12), ('block X: a', 7),
            ('block x: a5', 11), ('block x: A', 10), ('block x: a : b', 12), ('block x: block', 10),
            ('block x: a\t', 11), ('block x: a\r', 11), ('block 1: a', 7), ('block x: rod', 10), (' ', 1), ('   ', 1),
            ('', 1), ('\t', 1), (' \t', 2),
        ):
            self.assertBad('kinds a ~ b\nblock rod: a b\n' + told + '\nwhat', 3, column)
            if told:
                self.assertBad('kinds a ~ b\nblock rod: a b\n' + told, 3, column)

    def test_no_lines(self):
        for told in ('', '\n', ' ', '  \n', '\n\n', '\nkinds a', '   \nkinds a'):
            self.assertBad(told, 1, 1)
        self.assertBad('kinds a\n\n', 2, 1)
        self.assertBad('kinds a\n\nblock x: a', 2, 1)
        self.assertBad('kinds a\nblock x: a\n  ', 3, 1)

    def test_first_line_of_several_counts(self):
        self.assertBad('kinds a\nblock x: a\nblock x: b\nblock', 3, 7)
        self.assertBad('kinds a,\nblock', 1, 9)

    def test_no_string(self):
        for told in (None, 5, [], ['kinds a'], b'kinds a', True, Sheet(ABC, {})):
            self.assertBad(told, 0, 0)


class WriteSheet(unittest.TestCase):
    def test_ordinary(self):
        sheet = Sheet(
            {'d': 'b', 'b': 'd', 'c': 'c', 'a': 'z', 'z': 'a'},
            {'rod': ('d', 'b'), 'cup': ('c',), 'box': ('z', 'a', 'z', 'c')},
        )
        told = 'kinds a ~ z, b ~ d, c\nblock box: z a z c\nblock cup: c\nblock rod: d b\n'
        self.assertEqual(write_sheet(sheet), told)
        self.assertEqual(write_sheet(Sheet({'c': 'c'}, {})), 'kinds c\n')

    def test_read_back(self):
        rnd = seeded(60)
        for _ in range(200):
            sheet = random_sheet(rnd, rnd.randint(1, 4), rnd.randint(0, 6))
            told = write_sheet(sheet)
            self.assertEqual(read_sheet(told), sheet)
            self.assertEqual(write_sheet(read_sheet(told)), told)
            wide = told.replace('~', ' ~  ').replace(':', ' :').replace('\n', '  \n  ').rstrip(' ')
            self.assertEqual(read_sheet(wide), sheet)
            lines = told.split('\n')[:-1]
            blocks = lines[1:]
            rnd.shuffle(blocks)
            self.assertEqual(read_sheet('\n'.join(lines[:1] + blocks)), sheet)

    def test_errors(self):
        for bad in (None, 'kinds a', {}, 5):
            with self.assertRaises(BadSheet):
                write_sheet(bad)
