import unittest

from endsmeet.errors import BadBlock, BadKind, BadSheet
from endsmeet.sheets import Sheet
from tests.support import AB, ABC


class Sheets(unittest.TestCase):
    def test_ordinary(self):
        sheet = Sheet({'c': 'c', 'b': 'a', 'a': 'b'}, {'rod': ('a', 'b'), 'cup': ('a', 'b', 'c')})
        self.assertEqual(sheet.kinds(), ['a', 'b', 'c'])
        self.assertEqual(sheet.names(), ['cup', 'rod'])
        self.assertEqual(sheet.joints(), ['a', 'c'])
        self.assertEqual([sheet.partner(kind) for kind in 'abc'], ['b', 'a', 'c'])
        self.assertEqual([sheet.joint(kind) for kind in 'abc'], ['a', 'a', 'c'])
        self.assertEqual(sheet.ends('cup'), ('a', 'b', 'c'))
        self.assertEqual(len(sheet), 2)
        self.assertEqual(list(sheet), ['cup', 'rod'])
        self.assertIs('rod' in sheet, True)
        self.assertIs('bow' in sheet, False)

    def test_edges(self):
        sheet = Sheet({'k': 'k'}, {})
        self.assertEqual((len(sheet), list(sheet), sheet.names(), sheet.joints()), (0, [], [], ['k']))
        words = {'a': 'abcdefgh', 'abcdefgh': 'a'}
        sheet = Sheet(words, {'z': ('a',), 'zyxwvuts': ('a', 'a', 'abcdefgh', 'a')})
        self.assertEqual(sheet.ends('z'), ('a',))
        self.assertEqual(sheet.ends('zyxwvuts'), ('a', 'a', 'abcdefgh', 'a'))
        self.assertEqual(sheet.joints(), ['a'])

    def test_equal(self):
        sheet = Sheet(AB, {'rod': ('a', 'b'), 'cup': ('a',)})
        self.assertEqual(sheet, Sheet({'b': 'a', 'a': 'b'}, {'cup': ('a',), 'rod': ('a', 'b')}))
        self.assertNotEqual(sheet, Sheet(AB, {'rod': ('b', 'a'), 'cup': ('a',)}))
        self.assertNotEqual(sheet, Sheet(AB, {'rod': ('a', 'b')}))
        self.assertNotEqual(sheet, Sheet(ABC, {'rod': ('a', 'b'), 'cup': ('a',)}))
        self.assertNotEqual(sheet, 'sheet')

    def test_bad_partners(self):
        for partners in (
            {}, None, [('a', 'b')], 'a', {'a': 'b'}, {'a': 'b', 'b': 'b'}, {'a': 'b', 'b': 'c', 'c': 'a'},
            {'A': 'A'}, {'': ''}, {'abcdefghi': 'abcdefghi'}, {'a1': 'a1'}, {'a b': 'a b'}, {1: 1}, {True: True},
            {'a': None}, {'a': ['a']}, {'\u00e9': '\u00e9'}, {('a',): ('a',)}, {None: None},
        ):
            with self.assertRaises(BadSheet, msg=partners):
                Sheet(partners, {})

    def test_bad_blocks(self):
        for blocks in (
            None, [], (), 'rod', {'rod': ['a', 'b']}, {'rod': ()}, {'rod': ('a',) * 5}, {'rod': 'ab'},
            {'rod': ('a', 'z')}, {'rod': ('a', 1)}, {'rod': (['a'],)}, {'Rod': ('a',)}, {'': ('a',)},
            {'abcdefghi': ('a',)}, {1: ('a',)}, {True: ('a',)}, {'rod': None}, {'rod': (None,)}, {'r2': ('a',)},
        ):
            with self.assertRaises(BadSheet, msg=blocks):
                Sheet(AB, blocks)

    def test_bad_kinds_and_blocks(self):
        sheet = Sheet(AB, {'rod': ('a', 'b')})
        for kind in ('z', '', 'rod', 1, True, None, ['a'], ('a',), {}):
            with self.assertRaises(BadKind):
                sheet.partner(kind)
            with self.assertRaises(BadKind):
                sheet.joint(kind)
        for name in ('z', '', 'a', 1, True, None, ['rod'], ('rod',), {}):
            with self.assertRaises(BadBlock):
                sheet.ends(name)
            self.assertFalse(name in sheet)

    def test_arguments_are_copied_and_answers_new(self):
        partners, blocks = dict(AB), {'rod': ('a', 'b'), 'cup': ('a',)}
        sheet = Sheet(partners, blocks)
        self.assertEqual((partners, blocks), (AB, {'rod': ('a', 'b'), 'cup': ('a',)}))
        partners['c'] = 'c'
        blocks['bow'] = ('a',)
        del blocks['rod']
        self.assertEqual(sheet, Sheet(AB, {'rod': ('a', 'b'), 'cup': ('a',)}))
        for ask in (sheet.kinds, sheet.names, sheet.joints):
            ask().append('x')
            self.assertNotIn('x', ask())
        list(sheet).append('x')
        self.assertEqual(list(sheet), ['cup', 'rod'])
