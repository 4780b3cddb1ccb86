import unittest

from endsmeet.errors import BadBlock, BadSheet, TooLarge
from endsmeet.notation import read_piece
from endsmeet.pieces import Piece, free_ends, is_piece_of, rings
from endsmeet.sheets import Sheet
from endsmeet.trees import InTree, NotInTree, in_tree, tops
from tests.support import AB, ABC, cheapest_trees, random_sheet, seeded

SHEET = Sheet(ABC, {
    'cup': ('b',), 'fork': ('a', 'a', 'b'), 'cap': ('a',), 'rod': ('c', 'a'), 'bow': ('c', 'c'),
})


def staircase(steps):
    """A sheet in which the tree with the greatest top has 2 ** steps - 1 copies."""
    kinds = 'abcdefghijklm'[:steps]
    partners = {}
    for kind in kinds:
        partners['k' + kind], partners['p' + kind] = 'p' + kind, 'k' + kind
    blocks = {'xa': ('ka',)}
    for less, kind in zip(kinds, kinds[1:]):
        blocks['x' + kind] = ('k' + kind, 'p' + less, 'p' + less)
    return partners, blocks


class Trees(unittest.TestCase):
    def test_ordinary(self):
        found = in_tree(SHEET, 'fork')
        self.assertIsInstance(found, InTree)
        self.assertEqual(len(found.piece), 4)
        self.assertTrue(found.shows(SHEET, 'fork'))
        self.assertEqual(in_tree(SHEET, 'cup').piece, Piece(['cup', 'cap'], [((0, 0), (1, 0))]))
        self.assertEqual(in_tree(SHEET, 'bow').piece.blocks[0], 'bow')
        self.assertEqual(tops(SHEET), {'a': 1, 'b': 1, 'c': 2})

    def test_none(self):
        sheet = Sheet(AB, {'two': ('a', 'a'), 'rod': ('a', 'b')})
        for name in sheet:
            found = in_tree(sheet, name)
            self.assertIsInstance(found, NotInTree)
            self.assertEqual(found.never, ['a', 'b'])
            self.assertTrue(found.shows(sheet, name))
        self.assertEqual(tops(sheet), {})
        self.assertEqual(tops(Sheet(ABC, {})), {})

    def test_held_against_plain_search(self):
        rnd = seeded(30)
        found = {InTree: 0, NotInTree: 0}
        for _ in range(300):
            sheet = random_sheet(rnd, rnd.randint(1, 3), rnd.randint(1, 4))
            best = cheapest_trees(sheet, {name: 0 for name in sheet}, 30)
            self.assertEqual(tops(sheet), {kind: best[kind][1] for kind in sorted(best)})
            self.assertEqual(list(tops(sheet)), sorted(best))
            for name in sheet:
                answer = in_tree(sheet, name)
                found[answer.__class__] += 1
                self.assertTrue(answer.shows(sheet, name))
                can_be = all(sheet.partner(kind) in best for kind in sheet.ends(name))
                self.assertEqual(isinstance(answer, InTree), can_be)
                if can_be:
                    piece = answer.piece
                    self.assertTrue(is_piece_of(sheet, piece))
                    self.assertEqual((rings(sheet, piece), free_ends(sheet, piece)), (0, []))
        self.assertGreater(min(found.values()), 50)

    def test_200_copies_and_one_more(self):
        partners, blocks = staircase(7)
        partners.update({'y': 'z', 'z': 'y'})
        # The trees have 127, 63 and 7 copies, and with one of 1 copy there are 199, of 2 copies 200.
        blocks['top'] = ('pg', 'pf', 'pc', 'z')
        blocks['end'] = ('y',)
        self.assertEqual(len(in_tree(Sheet(partners, blocks), 'top').piece), 199)
        partners.update({'v': 'w', 'w': 'v'})
        blocks.update({'end': ('v',), 'rod': ('y', 'w')})
        sheet = Sheet(partners, blocks)
        found = in_tree(sheet, 'top')
        self.assertEqual(len(found.piece), 200)
        self.assertTrue(found.shows(sheet, 'top'))
        blocks['rod'] = ('y', 'w', 'w')
        sheet = Sheet(partners, blocks)
        with self.assertRaises(TooLarge):
            in_tree(sheet, 'top')
        self.assertEqual(tops(sheet)['y'], 3)

    def test_far_more_than_200_copies(self):
        partners, blocks = staircase(9)
        sheet = Sheet(partners, blocks)
        self.assertEqual(tops(sheet)['ki'], 511)
        # No closed tree has this block, however large, since its end has nothing to join.
        self.assertIsInstance(in_tree(sheet, 'xi'), NotInTree)
        with self.assertRaises(TooLarge):
            in_tree(Sheet(partners, dict(blocks, end=('pi',))), 'end')

    def test_great_numbers(self):
        kinds = [one + two for one in 'abcde' for two in 'abcdefghijklmnopqrst']
        partners = {}
        for kind in kinds:
            partners['k' + kind], partners['p' + kind] = 'p' + kind, 'k' + kind
        blocks = {'x' + kinds[0]: ('k' + kinds[0],)}
        for less, kind in zip(kinds, kinds[1:]):
            blocks['x' + kind] = ('k' + kind, 'p' + less, 'p' + less)
        self.assertEqual(tops(Sheet(partners, blocks))['k' + kinds[-1]], 2 ** 100 - 1)

    def test_in_tree_shows(self):
        whole = InTree(read_piece(SHEET, 'fork(0-0 cup, 1-0 cup, 2-0 cap)'))
        for name in ('fork', 'cup', 'cap'):
            self.assertIs(whole.shows(SHEET, name), True)
        ring = Sheet(AB, {'rod': ('a', 'b')})
        for sheet, name, piece in (
            (SHEET, 'rod', read_piece(SHEET, 'cup(0-0 cap)')), (SHEET, 'cup', Piece(['cup'], [])),
            (SHEET, 'fork', read_piece(SHEET, 'fork(0-0 cup, 1-0 cup)')),
            (ring, 'rod', read_piece(ring, 'rod(0@1, 1@1)')), (SHEET, 'cup', Piece(['wheel'], [])),
            (SHEET, 'cup', Piece(['cup', 'cup'], [((0, 0), (1, 0))])),
        ):
            self.assertIs(InTree(piece).shows(sheet, name), False)
        altered = in_tree(SHEET, 'cup')
        altered.piece = Piece(['cup'], [])
        self.assertIs(altered.shows(SHEET, 'cup'), False)

    def test_not_in_tree_shows(self):
        sheet = Sheet(ABC, {'two': ('a', 'a'), 'rod': ('a', 'b'), 'cap': ('c',)})
        self.assertTrue(NotInTree(['a', 'b']).shows(sheet, 'two'))
        self.assertTrue(NotInTree(('a', 'b')).shows(sheet, 'rod'))
        for name, never in (
            ('two', []), ('two', ['b', 'a']), ('two', ['a', 'a', 'b']), ('two', ['a', 'b', 'c']), ('two', ['a']),
            ('cap', ['a', 'b']), ('two', ['a', 'b', 'z']), ('two', ['A', 'a', 'b']), ('cap', ['c']),
        ):
            self.assertIs(NotInTree(never).shows(sheet, name), False, never)
        # With b alone, each end of kind b has another end whose kind is the partner of b.
        self.assertTrue(NotInTree(['b']).shows(Sheet(AB, {'two': ('a', 'a'), 'rod': ('a', 'b')}), 'two'))

    def test_equal_and_copied(self):
        piece = Piece(['cup', 'cap'], [((0, 0), (1, 0))])
        one = InTree(piece)
        self.assertEqual(one, InTree(Piece(['cup', 'cap'], [((0, 0), (1, 0))])))
        self.assertNotEqual(one, InTree(Piece(['cup'], [])))
        self.assertNotEqual(one, piece)
        piece.blocks = ('cap', 'cup')
        self.assertEqual(one.piece.blocks, ('cup', 'cap'))
        never = ['a']
        one = NotInTree(never)
        never.append('b')
        self.assertEqual(one.never, ['a'])
        self.assertEqual(one, NotInTree(('a',)))
        self.assertNotEqual(one, NotInTree(['b']))
        self.assertNotEqual(one, ['a'])
        one.never.append('b')
        self.assertEqual(one, NotInTree(['a', 'b']))

    def test_errors(self):
        piece = Piece(['cup'], [])
        for ask in (in_tree, InTree(piece).shows, NotInTree([]).shows):
            for name in ('wheel', '', 'a', None, 3, ['cup'], True):
                with self.assertRaises(BadBlock):
                    ask(SHEET, name)
            with self.assertRaises(BadSheet):
                ask(None, 'cup')
        with self.assertRaises(BadSheet):
            tops(None)
