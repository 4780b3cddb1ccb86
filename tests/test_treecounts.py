import unittest

from endsmeet.errors import BadNumber, BadSheet
from endsmeet.listing import closed_pieces
from endsmeet.pieces import rings
from endsmeet.sheets import Sheet
from endsmeet.treecounts import tree_numbers
from tests.support import AB, all_amounts, random_sheet, seeded

OWN = {'c': 'c'}


def with_caps(sheet):
    """A sheet with a block of one end more for each kind."""
    blocks = {name: sheet.ends(name) for name in sheet}
    blocks.update({'cap' + kind: (kind,) for kind in sheet.kinds()})
    return Sheet({kind: sheet.partner(kind) for kind in sheet.kinds()}, blocks)


def tops(sheet, kind, many):
    """All trees of so many copies with a top of some kind, as nested tuples, each once."""
    found = set()
    for name in sheet:
        ends = list(sheet.ends(name))
        if kind in ends:
            ends.remove(kind)
            found.update((name, kind, inner) for inner in fillings(sheet, ends, many - 1))
    return found


def fillings(sheet, ends, many):
    """All ways to hang trees of so many copies at some ends, in order of the kinds and trees."""
    if not ends:
        return {()} if many == 0 else set()
    found = set()
    for first in range(1, many - len(ends) + 2):
        for tree in tops(sheet, sheet.partner(ends[0]), first):
            for others in fillings(sheet, ends[1:], many - first):
                found.add(tuple(sorted(others + ((ends[0], tree),))))
    return found


def plain_trees(sheet, many):
    """All closed trees of so many copies, each once, told from the copy that comes first."""
    found = set()
    for name in sheet:
        for inner in fillings(sheet, list(sheet.ends(name)), many - 1):
            found.add(min(all_rootings(name, inner)))
    return found


def all_rootings(name, inner):
    """A closed tree as told from each of its copies."""
    found = {(name, inner)}
    waiting = [(name, inner)]
    while waiting:
        name, inner = waiting.pop()
        for at, (end, (other, top, more)) in enumerate(inner):
            told = other, tuple(sorted(more + ((top, (name, end, inner[:at] + inner[at + 1:])),)))
            if told not in found:
                found.add(told)
                waiting.append(told)
    return found


class TreeNumbers(unittest.TestCase):
    def test_ordinary(self):
        sheet = Sheet(OWN, {'cap': ('c',), 'rod': ('c', 'c'), 'hub': ('c', 'c', 'c')})
        self.assertEqual(tree_numbers(sheet, 8), [0, 1, 1, 2, 2, 4, 6, 11])

    def test_carbon_and_hydrogen(self):
        # The alkanes with 1 to 19 carbons have 3 k + 2 copies.
        sheet = Sheet(OWN, {'box': ('c', 'c', 'c', 'c'), 'cap': ('c',)})
        numbers = tree_numbers(sheet, 60)
        self.assertEqual(len(numbers), 60)
        self.assertEqual([numbers[3 * many + 1] for many in range(1, 20)], [
            1, 1, 1, 2, 3, 5, 9, 18, 35, 75, 159, 355, 802, 1858, 4347, 10359, 24894, 60523, 148284,
        ])
        self.assertEqual(numbers[1], 1)
        self.assertEqual(sum(numbers[at] for at in range(60) if at % 3 != 1), 0)

    def test_trees_by_degrees(self):
        # Trees in which no copy has more than four ends, as 1, 1, 2, 3, 5, 9, 18, ..
        sheet = Sheet(OWN, {'a': ('c',), 'b': ('c', 'c'), 'd': ('c', 'c', 'c'), 'e': ('c', 'c', 'c', 'c')})
        self.assertEqual(tree_numbers(sheet, 15), [
            0, 1, 1, 2, 3, 5, 9, 18, 35, 75, 159, 355, 802, 1858, 4347,
        ])

    def test_two_kinds(self):
        self.assertEqual(tree_numbers(Sheet(AB, {'cup': ('b',), 'cap': ('a',)}), 4), [0, 1, 0, 0])
        self.assertEqual(tree_numbers(Sheet(AB, {'cup': ('b',), 'cap': ('a',), 'rod': ('a', 'b')}), 5), [0, 1, 1, 1, 1])
        self.assertEqual(tree_numbers(Sheet(AB, {'cup': ('b',), 'fork': ('a', 'a')}), 5), [0, 0, 1, 0, 0])
        # A block with both kinds told apart: each of its sides has one of two ends.
        sheet = Sheet(AB, {'one': ('b',), 'two': ('b',), 'fork': ('a', 'a')})
        self.assertEqual(tree_numbers(sheet, 3), [0, 0, 3])

    def test_edges(self):
        self.assertEqual(tree_numbers(Sheet(OWN, {}), 1), [0])
        self.assertEqual(tree_numbers(Sheet(OWN, {}), 60), [0] * 60)
        self.assertEqual(tree_numbers(Sheet(OWN, {'rod': ('c', 'c')}), 60), [0] * 60)
        self.assertEqual(tree_numbers(Sheet(OWN, {'cap': ('c',)}), 3), [0, 1, 0])
        self.assertEqual(tree_numbers(Sheet(OWN, {'cap': ('c',), 'cup': ('c',)}), 2), [0, 3])
        self.assertEqual(tree_numbers(Sheet(OWN, {'cap': ('c',), 'rod': ('c', 'c')}), 60), [0] + [1] * 59)

    def test_held_against_plain_listing(self):
        rnd = seeded(91)
        seen = 0
        for _ in range(150):
            sheet = with_caps(random_sheet(rnd, rnd.randint(1, 2), rnd.randint(1, 4)))
            numbers = tree_numbers(sheet, 7)
            plain = [len(plain_trees(sheet, many)) for many in range(1, 8) if sum(numbers[:many]) < 300]
            self.assertEqual(numbers[:len(plain)], plain)
            seen += sum(plain) > 10
        self.assertGreater(seen, 20)

    def test_held_against_all_closed_pieces(self):
        sheet = Sheet({'a': 'b', 'b': 'a', 'c': 'c'}, {
            'fork': ('a', 'a', 'c'), 'cup': ('b',), 'cap': ('c',), 'rod': ('b', 'c'),
        })
        plain = [0] * 7
        for amounts in all_amounts(sheet.names(), 6):
            many = sum(amounts.values())
            ends = sum(len(sheet.ends(name)) * amounts[name] for name in amounts)
            if 0 < many <= 7 and ends == 2 * many - 2:
                plain[many - 1] += len([piece for piece in closed_pieces(sheet, amounts) if rings(sheet, piece) == 0])
        self.assertEqual(tree_numbers(sheet, 7), plain)
        self.assertGreater(sum(plain), 5)

    def test_shorter_lists_begin_longer_ones(self):
        rnd = seeded(92)
        for _ in range(20):
            sheet = random_sheet(rnd, rnd.randint(1, 4), rnd.randint(1, 6))
            numbers = tree_numbers(sheet, 60)
            self.assertEqual(len(numbers), 60)
            for many in (1, 2, 17, 59):
                self.assertEqual(tree_numbers(sheet, many), numbers[:many])

    def test_errors(self):
        sheet = Sheet(OWN, {'cap': ('c',)})
        for bad in (0, 61, -1, True, False, None, '5', 10 ** 30, [5]):
            with self.assertRaises(BadNumber, msg=bad):
                tree_numbers(sheet, bad)
            with self.assertRaises(BadSheet):
                tree_numbers(None, bad)
