"""Each name of the interface is defined in the file under which it is listed, with the arguments that are told."""

import ast
import importlib
import os
import unittest

import endsmeet

FUNCTIONS = {
    'sheets': (),
    'texts': ('read_sheet(told)', 'write_sheet(sheet)'),
    'pieces': (
        'is_piece_of(sheet, piece)', 'free_ends(sheet, piece)', 'rings(sheet, piece)', 'amounts_of(sheet, piece)',
    ),
    'notation': ('read_piece(sheet, told)', 'write_piece(sheet, piece)'),
    'sameness': ('same(sheet, one, other)', 'turns(sheet, piece)'),
    'joining': (
        'excess(sheet, amounts)', 'is_whole_piecing(sheet, amounts, links)', 'joined(sheet, amounts)',
        'pieces_of(sheet, amounts, links)',
    ),
    'fewest': ('fewest(sheet, amounts)', 'least_pieces(sheet, amounts)', 'conditions(sheet, names)'),
    'closing': (
        'least_closings(sheet)', 'always_one(sheet, amounts)', 'most(sheet, amounts)', 'first_unlike(one, other)',
    ),
    'supplies': ('supply(sheet, name)',),
    'trees': ('in_tree(sheet, name)', 'tops(sheet)'),
    'finishing': ('finish(sheet, piece, prices)',),
    'chances': (
        'ways(sheet, amounts)', 'ways_in_one(sheet, amounts)', 'chance_of_one(sheet, amounts)',
        'expected_pieces(sheet, amounts)', 'expected_of(sheet, amounts, piece)',
    ),
    'exchanging': ('exchanges(sheet, amounts, first, last)',),
    'listing': ('closed_pieces(sheet, amounts)',),
    'desks': (),
    'treecounts': ('tree_numbers(sheet, most)',),
    'bridging': ('bridge(sheet, kind, other, prices)',),
    'placing': (
        'is_chain(sheet, thing)', 'turned(sheet, chain)', 'closes(sheet, chain)', 'chain_form(sheet, chain)',
        'write_chain(sheet, chain)', 'ring_form(sheet, chain)',
    ),
    'recipes': ('is_recipe(sheet, thing)', 'write_recipe(sheet, recipe)'),
    'reading': ('read_recipe(sheet, text)',),
    'spelling': (),
    'machines': (),
    'misfits': ('misfit(sheet, recipe)',),
    'families': ('family(sheet, recipe)',),
    'once': ('told_twice(sheet, recipe)',),
    'numbers': ('count_chains(family, many)', 'first_unlike(one, other)'),
    'rings': ('rings_of(family)', 'count_rings(rings, many)'),
    'weights': ('spectrum(family, weights)', 'chain_of_total(family, weights, total)'),
    'runs': ('longest_run(family, names)',),
    'cutting': ('fragments(family, joints)', 'cut_chain(sheet, joints, chain)'),
    'joins': ('joined(families)', 'parted(families, chain)', 'gives_nothing_new(families)'),
    'windows': ('pieces(family, many)', 'known_from(family)'),
    'stocks': ('least_amounts(family)', 'chain_of_amounts(family, amounts)'),
    'gaps': ('gaps(family, names, others)',),
    'prices': ('tariff(family, weights, prices)', 'cheapest(family, weights, prices, total)'),
}
METHODS = {
    'sheets': {'Sheet': (
        '__init__(self, partners, blocks)', 'kinds(self)', 'names(self)', 'joints(self)', 'partner(self, kind)',
        'joint(self, kind)', 'ends(self, name)', '__len__(self)', '__contains__(self, name)', '__iter__(self)',
        '__eq__(self, other)',
    )},
    'pieces': {'Piece': ('__init__(self, blocks, links)', '__len__(self)', '__eq__(self, other)')},
    'sameness': {'Same': ('__init__(self, copies, turned)', 'shows(self, sheet, one, other)', '__eq__(self, other)')},
    'fewest': {'Fewest': ('__init__(self, links, across)', 'shows(self, sheet, amounts)', '__eq__(self, other)')},
    'closing': {'Most': ('__init__(self, parts)', 'shows(self, sheet, amounts)', '__eq__(self, other)')},
    'supplies': {
        'Supply': ('__init__(self, amounts)', 'shows(self, sheet, name)', '__eq__(self, other)'),
        'Kept': ('__init__(self, weights)', 'shows(self, sheet, name)', '__eq__(self, other)'),
    },
    'trees': {
        'InTree': ('__init__(self, piece)', 'shows(self, sheet, name)', '__eq__(self, other)'),
        'NotInTree': ('__init__(self, never)', 'shows(self, sheet, name)', '__eq__(self, other)'),
    },
    'finishing': {'Finish': (
        '__init__(self, trees, price, bounds)', 'shows(self, sheet, piece, prices)', '__eq__(self, other)',
    )},
    'exchanging': {'Exchanges': (
        '__init__(self, steps)', 'shows(self, sheet, amounts, first, last)', '__eq__(self, other)',
    )},
    'desks': {'Desk': (
        '__init__(self, sheet)', 'add(self, name)', 'join(self, copy, end, other, end_there)', 'part(self, copy, end)',
        'all_links(self)', 'pieces(self)', 'free(self)', '__len__(self)', 'trial(self, work)', 'keep(self)',
    )},
    'bridging': {'Bridge': (
        '__init__(self, piece, price, bounds, paths)', 'shows(self, sheet, kind, other, prices)', '__eq__(self, other)',
    )},
    'misfits': {'Misfit': ('__init__(self, pair, told, at)', 'shows(self, sheet, recipe)', '__eq__(self, other)')},
    'families': {'Family': (
        '__eq__(self, other)', '__bool__(self)', 'table(self)', 'has(self, chain)', 'first(self)', 'is_endless(self)',
        'chains(self, many)', 'both(self, other)', 'either(self, other)', 'without(self, other)', 'within(self, other)',
        'parting(self, other)',
    )},
    'once': {'Twice': ('__init__(self, one_row, other_row)', 'shows(self, sheet, recipe)', '__eq__(self, other)')},
    'rings': {'Rings': (
        '__eq__(self, other)', '__bool__(self)', 'table(self)', 'has(self, chain)', 'first(self)', 'is_endless(self)',
        'within(self, other)', 'parting(self, other)',
    )},
    'weights': {'Spectrum': (
        '__init__(self, threshold, period, below, rests)', 'has(self, total)', 'is_endless(self)', 'last_lacking(self)',
        '__eq__(self, other)',
    )},
    'runs': {
        'Longest': ('__init__(self, most, chain)', 'shows(self, family, names)', '__eq__(self, other)'),
        'Unending': ('__init__(self, front, loop, back)', 'shows(self, family, names)', '__eq__(self, other)'),
    },
    'cutting': {'Fragments': (
        '__eq__(self, other)', '__bool__(self)', 'table(self)', 'has(self, chain, is_left_cut, is_right_cut)',
        'first(self)', 'is_endless(self)', 'within(self, other)', 'parting(self, other)',
    )},
    'windows': {
        'Known': ('__init__(self, signs, other)', 'shows(self, family)', '__eq__(self, other)'),
        'Unknown': ('__init__(self, front, loop, back)', 'shows(self, family)', '__eq__(self, other)'),
    },
    'gaps': {'Gaps': ('__init__(self, least, greatest)', '__eq__(self, other)')},
    'prices': {
        'Tariff': ('__init__(self, threshold, below, again, step)', 'least_at(self, total)', '__eq__(self, other)'),
        'Cheapest': (
            '__init__(self, chain, cost, worths)', 'shows(self, family, weights, prices, total)', '__eq__(self, other)',
        ),
    },
}
# With what objects are made, by the names of their attributes; all of these are set when an object is created.
ATTRIBUTES = {
    'Piece': {'blocks': ['rod'], 'links': []}, 'Same': {'copies': [0], 'turned': [(0, 1)]},
    'Fewest': {'links': [], 'across': []}, 'Most': {'parts': []}, 'Supply': {'amounts': {}}, 'Kept': {'weights': {}},
    'NotInTree': {'never': []}, 'Exchanges': {'steps': []}, 'Misfit': {'pair': (0, 1), 'told': [], 'at': 0},
    'Twice': {'one_row': [], 'other_row': []}, 'Spectrum': {'threshold': 0, 'period': 1, 'below': [], 'rests': []},
    'Longest': {'most': 0, 'chain': None}, 'Unending': {'front': [], 'loop': [], 'back': []},
    'Known': {'signs': 2, 'other': None}, 'Unknown': {'front': [], 'loop': [], 'back': []},
    'Gaps': {'least': 0, 'greatest': None}, 'Tariff': {'threshold': 0, 'below': [], 'again': [None], 'step': 0},
    'Cheapest': {'chain': [], 'cost': 0, 'worths': []}, 'Finish': {'trees': [], 'price': 0, 'bounds': {}},
}


def told(function):
    return f'{function.name}({ast.unparse(function.args)})'


class Interface(unittest.TestCase):
    def test_attributes(self):
        for module, classes in METHODS.items():
            for name in classes:
                if name in ATTRIBUTES:
                    made = getattr(importlib.import_module(f'endsmeet.{module}'), name)
                    for found in (made(**ATTRIBUTES[name]), made(*ATTRIBUTES[name].values())):
                        for attribute, value in ATTRIBUTES[name].items():
                            told_value = getattr(found, attribute)
                            self.assertEqual(list(told_value) if isinstance(told_value, tuple) else told_value,
                                             list(value) if isinstance(value, tuple) else value, (name, attribute))

    def test_every_module_of_the_interface(self):
        for module in FUNCTIONS:
            importlib.import_module(f'endsmeet.{module}')
        self.assertEqual(len(FUNCTIONS), 35)

    def test_names_and_arguments(self):
        for module, functions in FUNCTIONS.items():
            path = os.path.join(os.path.dirname(endsmeet.__file__), module + '.py')
            with open(path, encoding='utf-8') as file:
                tree = ast.parse(file.read())
            found = {told(node) for node in tree.body if isinstance(node, ast.FunctionDef)}
            self.assertLessEqual(set(functions), found, module)
            classes = {node.name: node for node in tree.body if isinstance(node, ast.ClassDef)}
            for name, methods in METHODS.get(module, {}).items():
                own = {told(node) for node in classes[name].body if isinstance(node, ast.FunctionDef)}
                self.assertLessEqual(set(methods), own, name)
