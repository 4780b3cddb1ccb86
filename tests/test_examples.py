"""The examples of the interface, as they stand in DOC.md."""

import doctest
import unittest

EXAMPLES = (
    """
>>> from endsmeet.notation import read_piece, write_piece
>>> from endsmeet.pieces import amounts_of, free_ends, rings
>>> from endsmeet.sheets import Sheet
>>> sheet = Sheet({'a': 'b', 'b': 'a', 'c': 'c'}, {'rod': ('a', 'b'), 'cup': ('a', 'b', 'c')})
>>> piece = read_piece(sheet, 'cup(0-1 rod(0@1), 1@1)')
>>> [piece.blocks, piece.links, free_ends(sheet, piece), rings(sheet, piece), amounts_of(sheet, piece), write_piece(sheet, piece)]
[('cup', 'rod'), (((0, 0), (1, 1)), ((0, 1), (1, 0))), [(0, 2)], 1, {'cup': 1, 'rod': 1}, 'cup(0-1 rod(0@1), 1@1)']
""",
    """
>>> from endsmeet.notation import read_piece
>>> from endsmeet.sameness import same, turns
>>> from endsmeet.sheets import Sheet
>>> sheet = Sheet({'a': 'b', 'b': 'a'}, {'hub': ('b', 'b', 'b'), 'cap': ('a',)})
>>> piece = read_piece(sheet, 'hub(0-0 cap, 1-0 cap)')
>>> [turns(sheet, piece), same(sheet, piece, read_piece(sheet, 'cap(0-2 hub(0-0 cap))')) is None]
[2, False]
""",
    """
>>> from endsmeet.closing import always_one, least_closings, most
>>> from endsmeet.sheets import Sheet
>>> sheet = Sheet({'a': 'b', 'b': 'a'}, {'fork': ('a', 'a'), 'cup': ('b',), 'rod': ('a', 'b')})
>>> [least_closings(sheet), always_one(sheet, {'fork': 1, 'cup': 2}), len(most(sheet, {'fork': 1, 'cup': 2, 'rod': 3}).parts)]
[[{'cup': 0, 'fork': 0, 'rod': 1}, {'cup': 2, 'fork': 1, 'rod': 0}], True, 4]
""",
    """
>>> from endsmeet.finishing import finish
>>> from endsmeet.pieces import Piece
>>> from endsmeet.sheets import Sheet
>>> sheet = Sheet({'a': 'b', 'b': 'a'}, {'cup': ('b',), 'fork': ('a', 'a', 'b'), 'cap': ('a',)})
>>> finish(sheet, Piece(['fork'], []), {'cup': 5, 'fork': 0, 'cap': 2}).price
12
""",
    """
>>> from endsmeet.chances import chance_of_one, expected_of, expected_pieces, ways
>>> from endsmeet.notation import read_piece
>>> from endsmeet.sheets import Sheet
>>> sheet = Sheet({'c': 'c'}, {'rod': ('c', 'c')})
>>> ring = read_piece(sheet, 'rod(0@1, 1@1)')
>>> [ways(sheet, {'rod': 3}), chance_of_one(sheet, {'rod': 3}), expected_pieces(sheet, {'rod': 3}), expected_of(sheet, {'rod': 3}, ring)]
[15, (8, 15), (23, 15), (3, 5)]
""",
    """
>>> from endsmeet.bridging import bridge
>>> from endsmeet.sheets import Sheet
>>> sheet = Sheet({'a': 'b', 'b': 'a', 'c': 'c'}, {'rod': ('a', 'b'), 'tee': ('a', 'c', 'b'), 'cup': ('a',)})
>>> bridge(sheet, 'a', 'c', {'rod': 1, 'tee': 4, 'cup': 9}).price
13
""",
    """
>>> from endsmeet.sheets import Sheet
>>> from endsmeet.supplies import Kept, supply
>>> from endsmeet.trees import InTree, in_tree, tops
>>> sheet = Sheet({'a': 'b', 'b': 'a'}, {'two': ('a', 'a'), 'rod': ('a', 'b')})
>>> [isinstance(supply(sheet, 'two'), Kept), isinstance(supply(sheet, 'rod'), Kept), isinstance(in_tree(sheet, 'rod'), InTree), tops(sheet)]
[True, False, False, {}]
""",
    r"""
>>> from endsmeet.texts import read_sheet, write_sheet
>>> sheet = read_sheet('kinds a ~ b, c\nblock star: a a c\nblock rod:a  b')
>>> [write_sheet(sheet), sheet.kinds(), sheet.joints(), sheet.partner('b'), sheet.ends('star')]
['kinds a ~ b, c\nblock rod: a b\nblock star: a a c\n', ['a', 'b', 'c'], ['a', 'c'], 'a', ('a', 'a', 'c')]
""",
    """
>>> from endsmeet.sheets import Sheet
>>> from endsmeet.treecounts import tree_numbers
>>> tree_numbers(Sheet({'c': 'c'}, {'cap': ('c',), 'rod': ('c', 'c'), 'hub': ('c', 'c', 'c')}), 8)
[0, 1, 1, 2, 2, 4, 6, 11]
""",
    """
>>> from endsmeet.placing import closes, ring_form, turned, write_chain
>>> from endsmeet.sheets import Sheet
>>> sheet = Sheet({'a': 'b', 'b': 'a'}, {'x': ('b', 'a'), 'y': ('b', 'b'), 'z': ('a', 'a')})
>>> chain = [('x', 0), ('x', 0), ('y', 0)]
>>> [turned(sheet, chain), write_chain(sheet, turned(sheet, chain)), closes(sheet, chain)]
[[('y', 0), ('x', 1), ('x', 1)], 'y ~x ~x', False]
""",
    """
>>> from endsmeet.placing import ring_form
>>> from endsmeet.sheets import Sheet
>>> sheet = Sheet({'a': 'b', 'b': 'a'}, {'x': ('b', 'a'), 'y': ('b', 'b'), 'z': ('a', 'a')})
>>> ring_form(sheet, [('x', 1), ('z', 0), ('y', 0)])
[('x', 0), ('y', 0), ('z', 0)]
""",
    """
>>> from endsmeet.reading import read_recipe
>>> from endsmeet.recipes import write_recipe
>>> from endsmeet.sheets import Sheet
>>> sheet = Sheet({'a': 'b', 'b': 'a'}, {'x': ('b', 'a'), 'y': ('b', 'b'), 'z': ('a', 'a')})
>>> recipe = read_recipe(sheet, 'z(y z){2..}|~(x*)')
>>> [recipe[1][1], write_recipe(sheet, recipe)]
[('turned', ('times', ('block', 'x', 0), 0, None)), 'z (y z){2..} | ~(x*)']
""",
    """
>>> from endsmeet.misfits import misfit
>>> from endsmeet.reading import read_recipe
>>> from endsmeet.sheets import Sheet
>>> sheet = Sheet({'a': 'b', 'b': 'a'}, {'x': ('b', 'a'), 'y': ('b', 'b'), 'z': ('a', 'a')})
>>> found = misfit(sheet, read_recipe(sheet, 'x* y x'))
>>> [found.pair, found.told, found.at]
[(1, 2), [('y', 0), ('x', 0)], 0]
""",
    """
>>> from endsmeet.families import family
>>> from endsmeet.reading import read_recipe
>>> from endsmeet.sheets import Sheet
>>> sheet = Sheet({'a': 'b', 'b': 'a'}, {'x': ('b', 'a'), 'y': ('b', 'b'), 'z': ('a', 'a')})
>>> one, other = family(sheet, read_recipe(sheet, 'z y | x+')), family(sheet, read_recipe(sheet, 'y z | ~x (~x)*'))
>>> [one == other, one.parting(family(sheet, read_recipe(sheet, 'x+'))), one.chains(2), one.is_endless()]
[True, [('y', 0), ('z', 0)], [[('x', 0), ('x', 0)], [('y', 0), ('z', 0)]], True]
""",
    """
>>> from endsmeet.once import told_twice
>>> from endsmeet.reading import read_recipe
>>> from endsmeet.sheets import Sheet
>>> sheet = Sheet({'a': 'b', 'b': 'a'}, {'x': ('b', 'a'), 'y': ('b', 'b'), 'z': ('a', 'a')})
>>> found = told_twice(sheet, read_recipe(sheet, 'z y | y z'))
>>> sorted([found.one_row, found.other_row])
[[0, 1], [2, 3]]
""",
    """
>>> from endsmeet.families import family
>>> from endsmeet.numbers import count_chains, first_unlike
>>> from endsmeet.reading import read_recipe
>>> from endsmeet.sheets import Sheet
>>> sheet = Sheet({'k': 'k'}, {'p': ('k', 'k'), 'r': ('k', 'k')})
>>> both = family(sheet, read_recipe(sheet, '(p | r)+'))
>>> [count_chains(both, 3), first_unlike(both, family(sheet, read_recipe(sheet, '(p | r) (p | r)*')))]
[6, None]
""",
    """
>>> from endsmeet.families import family
>>> from endsmeet.reading import read_recipe
>>> from endsmeet.rings import count_rings, rings_of
>>> from endsmeet.sheets import Sheet
>>> sheet = Sheet({'k': 'k'}, {'p': ('k', 'k'), 'r': ('k', 'k')})
>>> rings = rings_of(family(sheet, read_recipe(sheet, '(p | r)+')))
>>> [count_rings(rings, 4), rings.first()]
[6, [('p', 0)]]
""",
    """
>>> from endsmeet.families import family
>>> from endsmeet.reading import read_recipe
>>> from endsmeet.sheets import Sheet
>>> from endsmeet.weights import spectrum
>>> sheet = Sheet({'k': 'k'}, {'p': ('k', 'k'), 'r': ('k', 'k')})
>>> found = spectrum(family(sheet, read_recipe(sheet, 'p* (p | r) r*')), {'p': 5, 'r': 3})
>>> [found.threshold, found.period, found.below, found.rests, found.last_lacking()]
[8, 1, [3, 5, 6], [0], 7]
""",
    """
>>> from endsmeet.families import family
>>> from endsmeet.reading import read_recipe
>>> from endsmeet.runs import longest_run
>>> from endsmeet.sheets import Sheet
>>> sheet = Sheet({'k': 'k'}, {'p': ('k', 'k'), 'r': ('k', 'k')})
>>> longest_run(family(sheet, read_recipe(sheet, 'p{2} r p{3}')), ('p',)).most
3
""",
    """
>>> from endsmeet.cutting import cut_chain
>>> from endsmeet.sheets import Sheet
>>> sheet = Sheet({'a': 'b', 'b': 'a'}, {'x': ('b', 'a'), 'y': ('b', 'b'), 'z': ('a', 'a')})
>>> cut_chain(sheet, ('a',), [('z', 0), ('y', 0)])
[([('z', 0)], False, True), ([('y', 0)], True, False)]
""",
    """
>>> from endsmeet.families import family
>>> from endsmeet.joins import gives_nothing_new, parted
>>> from endsmeet.reading import read_recipe
>>> from endsmeet.sheets import Sheet
>>> sheet = Sheet({'a': 'b', 'b': 'a'}, {'x': ('b', 'a'), 'y': ('b', 'b'), 'z': ('a', 'a')})
>>> some = [family(sheet, read_recipe(sheet, 'z y'))]
>>> [parted(some, [('z', 0), ('y', 0), ('z', 0), ('y', 0)]), gives_nothing_new(some)]
[[[('z', 0), ('y', 0)], [('z', 0), ('y', 0)]], False]
""",
    """
>>> from endsmeet.families import family
>>> from endsmeet.reading import read_recipe
>>> from endsmeet.sheets import Sheet
>>> from endsmeet.windows import known_from, pieces
>>> sheet = Sheet({'k': 'k'}, {'p': ('k', 'k'), 'r': ('k', 'k')})
>>> one = family(sheet, read_recipe(sheet, 'p{2}'))
>>> [known_from(one).signs, pieces(one, 2)]
[3, [[('', 0), ('p', 0)], [('p', 0), ('', 1)], [('p', 0), ('p', 0)]]]
""",
    """
>>> from endsmeet.families import family
>>> from endsmeet.reading import read_recipe
>>> from endsmeet.sheets import Sheet
>>> from endsmeet.stocks import least_amounts
>>> sheet = Sheet({'k': 'k'}, {'p': ('k', 'k'), 'r': ('k', 'k')})
>>> least_amounts(family(sheet, read_recipe(sheet, 'p p r* | r{3}')))
[{'p': 0, 'r': 3}, {'p': 2, 'r': 0}]
""",
    """
>>> from endsmeet.families import family
>>> from endsmeet.gaps import gaps
>>> from endsmeet.reading import read_recipe
>>> from endsmeet.sheets import Sheet
>>> sheet = Sheet({'k': 'k'}, {'p': ('k', 'k'), 'r': ('k', 'k')})
>>> found = gaps(family(sheet, read_recipe(sheet, 'p r* p | p r')), ('p',), ('p',))
>>> [found.least, found.greatest]
[0, None]
""",
    """
>>> from endsmeet.families import family
>>> from endsmeet.prices import cheapest, tariff
>>> from endsmeet.reading import read_recipe
>>> from endsmeet.sheets import Sheet
>>> sheet = Sheet({'k': 'k'}, {'p': ('k', 'k'), 'r': ('k', 'k')})
>>> one, weights, prices = family(sheet, read_recipe(sheet, '(p | r)+')), {'p': 2, 'r': 3}, {'p': 1, 'r': 1}
>>> found = tariff(one, weights, prices)
>>> [found.threshold, found.below, found.again, found.step, found.least_at(1000), cheapest(one, weights, prices, 6).chain]
[2, [None, None], [1, 1, 2], 1, 334, [('r', 0), ('r', 0)]]
""",
)


class Examples(unittest.TestCase):
    def test_examples(self):
        for number, told in enumerate(EXAMPLES):
            test = doctest.DocTestParser().get_doctest(told, {}, f'example {number}', None, 0)
            runner = doctest.DocTestRunner(verbose=False)
            runner.run(test)
            self.assertEqual((runner.failures, runner.tries), (0, len(test.examples)), told)
