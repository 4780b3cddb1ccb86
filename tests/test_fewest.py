import itertools
import unittest

from endsmeet.chances import ways
from endsmeet.errors import BadAmounts, BadBlock, BadSheet, NotBalanced, TooLarge
from endsmeet.fewest import Fewest, conditions, fewest, least_pieces
from endsmeet.joining import excess, is_whole_piecing, joined
from endsmeet.sheets import Sheet
from tests.support import AB, ABC, all_amounts, has_piecing, parts, piecings, random_sheet, seeded
from tests.test_joining import BAD_AMOUNTS

SHEET = Sheet(ABC, {'rod': ('a', 'b'), 'cup': ('b',), 'fork': ('a', 'a'), 'cap': ('c',), 'arc': ('c', 'c')})


def number_of_parts(sheet, amounts, across):
    """The number of the parts by some joints, copy by copy."""
    blocks = [name for name in sorted(amounts) for _ in range(amounts[name])]
    group = list(range(len(blocks)))
    for joint in across:
        near = [copy for copy, name in enumerate(blocks) if joint in [sheet.joint(kind) for kind in sheet.ends(name)]]
        group = [min(group[copy] for copy in near) if at in {group[copy] for copy in near} else at for at in group]
    return len(set(group))


def links_beyond(sheet, amounts, across):
    ends = [sheet.joint(kind) for name in amounts for kind in sheet.ends(name) * amounts[name]]
    return len([joint for joint in ends if joint not in across]) // 2


def sets(joints):
    return [list(some) for many in range(len(joints) + 1) for some in itertools.combinations(joints, many)]


def with_caps(sheet, amounts):
    """A sheet and amounts with further blocks of one end, so that there is a whole piecing."""
    partners = {kind: sheet.partner(kind) for kind in sheet.kinds()}
    blocks = {name: sheet.ends(name) for name in sheet}
    full = dict(amounts)
    for joint, many in excess(sheet, amounts).items():
        if many:
            name = 'z' + joint
            blocks[name] = (sheet.partner(joint) if many > 0 else joint,)
            full[name] = abs(many)
    return Sheet(partners, blocks), full


def wide_sheet(rnd, joints, blocks):
    """A sheet with so many joints."""
    partners = {}
    for letter in 'abcdefghij'[:joints]:
        one, other = 'k' + letter, 'p' + letter
        if rnd.random() < 0.3:
            partners[one] = one
        else:
            partners[one], partners[other] = other, one
    kinds = sorted(partners)
    names = ['b' + letter for letter in 'abcdefghijklmnopqrstuvwxyz'[:blocks]]
    return Sheet(partners, {name: tuple(rnd.choice(kinds) for _ in range(rnd.randint(1, 4))) for name in names})


class FewestPieces(unittest.TestCase):
    def test_ordinary(self):
        amounts = {'rod': 3, 'cup': 2, 'fork': 1, 'arc': 2}
        found = fewest(SHEET, amounts)
        self.assertTrue(found.shows(SHEET, amounts))
        self.assertEqual(least_pieces(SHEET, amounts), 2)
        self.assertEqual(len(parts(8, found.links)), 2)
        self.assertEqual(least_pieces(SHEET, {'rod': 1}), 1)
        self.assertEqual(fewest(SHEET, {'rod': 1}).links, [((0, 0), (0, 1))])
        self.assertTrue(fewest(SHEET, {'rod': 1}).shows(SHEET, {'rod': 1}))
        self.assertEqual(least_pieces(SHEET, {'cup': 6, 'fork': 3}), 3)
        # A chain of the bows with a cap at either end, and two pieces of two caps.
        self.assertEqual(least_pieces(SHEET, {'cap': 6, 'arc': 3, 'rod': 0, 'fork': 0}), 3)

    def test_held_against_plain_counting(self):
        rnd = seeded(70)
        seen = {}
        for _ in range(400):
            sheet = random_sheet(rnd, rnd.randint(1, 4), rnd.randint(1, 5))
            for _ in range(10):
                amounts = {name: rnd.randint(0, 3) for name in sheet}
                if not any(amounts.values()) or not 0 < ways(sheet, amounts) < 400:
                    continue
                many = sum(amounts.values())
                least = min(len(parts(many, links)) for links in piecings(sheet, amounts))
                found = fewest(sheet, amounts)
                self.assertEqual(len(parts(many, found.links)), least)
                self.assertEqual(least_pieces(sheet, amounts), least)
                self.assertTrue(is_whole_piecing(sheet, amounts, found.links))
                self.assertTrue(found.shows(sheet, amounts))
                seen[least] = seen.get(least, 0) + 1
                if least > 1:
                    self.assertEqual(
                        number_of_parts(sheet, amounts, found.across) - links_beyond(sheet, amounts, found.across),
                        least,
                    )
        self.assertGreater(min(seen[1], seen[2], seen[3]), 5)

    def test_many_copies(self):
        rnd = seeded(71)
        several = 0
        for _ in range(400):
            sheet = wide_sheet(rnd, rnd.randint(1, 8), rnd.randint(2, 12))
            sheet, amounts = with_caps(sheet, {name: rnd.choice((0, 1, 2, 5, 10, 30)) for name in sheet})
            if not any(amounts.values()):
                continue
            found = fewest(sheet, amounts)
            self.assertTrue(found.shows(sheet, amounts))
            least = least_pieces(sheet, amounts)
            self.assertEqual(len(parts(sum(amounts.values()), found.links)), least)
            several += least > 1
        self.assertGreater(several, 50)

    def test_exchanges_that_lead_on(self):
        # Copies of a row of joints, where rings at one joint have to be handed on to another one.
        partners = {kind: kind for kind in 'abcd'}
        sheet = Sheet(partners, {
            'rod': ('a', 'a'), 'low': ('a', 'b'), 'mid': ('b', 'c'), 'top': ('c', 'd'), 'cap': ('d',), 'end': ('b',),
            'tip': ('c',),
        })
        for amounts in (
            {'rod': 3, 'low': 4, 'mid': 4, 'top': 4, 'cap': 4}, {'low': 2, 'mid': 6, 'top': 6, 'end': 4, 'tip': 2},
            {'rod': 6, 'low': 2, 'mid': 3, 'top': 1, 'cap': 3, 'end': 1, 'tip': 4},
        ):
            amounts = {name: amounts.get(name, 0) for name in sheet}
            sheet_too, full = with_caps(sheet, amounts)
            found = fewest(sheet_too, full)
            self.assertTrue(found.shows(sheet_too, full))
            self.assertEqual(len(parts(sum(full.values()), found.links)), least_pieces(sheet_too, full))

    def test_great_amounts(self):
        self.assertEqual(least_pieces(SHEET, {'rod': 10 ** 30}), 1)
        self.assertEqual(least_pieces(SHEET, {'fork': 10 ** 30, 'cup': 2 * 10 ** 30, 'arc': 1}), 10 ** 30 + 1)
        found = fewest(SHEET, {'fork': 700, 'cup': 1400})
        self.assertTrue(found.shows(SHEET, {'fork': 700, 'cup': 1400}))

    def test_eight_joints_and_one_more(self):
        partners = {kind: kind for kind in 'abcdefgh'}
        blocks = {'x' + kind: (kind, kind) for kind in partners}
        amounts = {name: 2 for name in blocks}
        sheet = Sheet(partners, blocks)
        self.assertEqual(least_pieces(sheet, amounts), 8)
        found = fewest(sheet, amounts)
        self.assertTrue(found.shows(sheet, amounts))
        # The ninth joint counts, though no block has an end there.
        larger = Sheet(dict(partners, i='i'), blocks)
        for ask in (fewest, least_pieces, found.shows):
            with self.assertRaises(TooLarge):
                ask(larger, amounts)
            with self.assertRaises(NotBalanced):
                ask(Sheet(dict(partners, i='i'), {'cap': ('i',)}), {'cap': 1})
            with self.assertRaises(BadAmounts):
                ask(larger, {})

    def test_errors(self):
        for ask in (fewest, least_pieces, Fewest([], []).shows):
            for bad in BAD_AMOUNTS + ({}, {'rod': 0}, {'rod': 0, 'cup': 0}):
                with self.assertRaises(BadAmounts, msg=bad):
                    ask(SHEET, bad)
                with self.assertRaises(BadSheet):
                    ask(None, bad)
            for amounts in ({'cup': 1}, {'cap': 1, 'rod': 1}, {'fork': 2, 'cup': 3}):
                with self.assertRaises(NotBalanced):
                    ask(SHEET, amounts)


class Evidence(unittest.TestCase):
    sheet = Sheet(AB, {'rod': ('a', 'b'), 'cup': ('b',), 'fork': ('a', 'a')})
    amounts = {'fork': 2, 'cup': 4}

    def test_altered(self):
        found = fewest(self.sheet, self.amounts)
        self.assertEqual((len(found.links), found.across), (4, []))
        for links, across in (
            ([], []), (found.links[1:], []), (found.links[::-1], []), (found.links + found.links[:1], []),
            (found.links, ['a']), (found.links, ['b']), (found.links, ['c']), (found.links, ['a', 'a']),
            ([((0, 0), (4, -1))] + found.links[1:], []), ([((0, 0), (10 ** 30, 0))] + found.links[1:], []),
            ([((0, 0), (1, 0))] + found.links[1:], []), ([found.links[0]] * 4, []),
        ):
            self.assertIs(Fewest(links, across).shows(self.sheet, self.amounts), False, (links, across))
        altered = fewest(self.sheet, self.amounts)
        self.assertIs(altered.shows(self.sheet, self.amounts), True)
        altered.across = ['a']
        self.assertIs(altered.shows(self.sheet, self.amounts), False)
        altered.across = []
        altered.links = altered.links[:-1]
        self.assertIs(altered.shows(self.sheet, self.amounts), False)

    def test_not_fewest(self):
        # Three rods each in a ring of its own: no joints show that there are no fewer pieces.
        amounts = {'rod': 3}
        for across in ([], ['a']):
            self.assertIs(Fewest(joined(self.sheet, amounts), across).shows(self.sheet, amounts), False)

    def test_shows_just_what_is_so(self):
        rnd = seeded(72)
        found = {True: 0, False: 0}
        for _ in range(150):
            sheet = random_sheet(rnd, rnd.randint(1, 3), rnd.randint(1, 4))
            amounts = {name: rnd.randint(0, 2) for name in sheet}
            if not any(amounts.values()) or not 0 < ways(sheet, amounts) < 60:
                continue
            many = sum(amounts.values())
            for links in piecings(sheet, amounts):
                for across in sets(sheet.joints()):
                    pieces = len(parts(many, links))
                    bound = number_of_parts(sheet, amounts, across) - links_beyond(sheet, amounts, across)
                    shown = Fewest(links, across).shows(sheet, amounts)
                    self.assertEqual(shown, pieces == 1 or pieces == bound)
                    found[shown] += 1
        self.assertGreater(min(found.values()), 50)

    def test_equal_and_copied(self):
        links, across = [((0, 0), (0, 1))], ['a']
        one = Fewest(tuple(links), tuple(across))
        self.assertEqual((one.links, one.across), (links, across))
        self.assertEqual(one, Fewest(links, across))
        self.assertNotEqual(one, Fewest([], across))
        self.assertNotEqual(one, Fewest(links, []))
        self.assertNotEqual(one, (links, across))
        other = Fewest(links, across)
        links.clear()
        across.clear()
        self.assertEqual(one, other)
        other.across = []
        self.assertNotEqual(one, other)

    def test_new(self):
        amounts = {'cup': 4, 'rod': 0, 'fork': 2}
        found = fewest(self.sheet, amounts)
        found.links.clear()
        self.assertEqual(len(fewest(self.sheet, amounts).links), 4)
        self.assertEqual(list(amounts.items()), [('cup', 4), ('rod', 0), ('fork', 2)])


class Conditions(unittest.TestCase):
    def test_ordinary(self):
        self.assertEqual(conditions(SHEET, ('cup', 'fork')), [((1, 0), 2), ((0, 0), 0)])
        self.assertEqual(conditions(SHEET, ('rod',)), [((0,), 2), ((0,), 0)])
        self.assertEqual(conditions(SHEET, ('cap', 'rod')), [
            ((1, 0), 2), ((1, 0), 0), ((0, 0), 0), ((0, 0), -2),
        ])

    def test_order_of_the_sets(self):
        sheet = Sheet({'a': 'b', 'b': 'a', 'c': 'c', 'd': 'd'}, {'tee': ('b', 'c', 'd', 'd'), 'bar': ('d', 'd', 'd')})
        # The sets are none, a, c, d, a and c, a and d, c and d, all; bar comes before tee.
        self.assertEqual(conditions(sheet, ('bar', 'tee')), [
            ((-1, -2), 2), ((-1, -3), 0), ((-1, -3), 0), ((0, -2), 0), ((-1, -2), 0), ((0, -1), 0), ((0, -1), 0),
            ((0, 0), 0),
        ])

    def test_held_against_plain_counting(self):
        rnd = seeded(73)
        found = {True: 0, False: 0}
        for _ in range(100):
            sheet = random_sheet(rnd, rnd.randint(1, 3), rnd.randint(1, 3))
            names = tuple(sorted(rnd.sample(sheet.names(), rnd.randint(1, len(sheet)))))
            rows = conditions(sheet, names)
            joints = sorted({sheet.joint(kind) for name in names for kind in sheet.ends(name)})
            self.assertEqual(len(rows), 2 ** len(joints))
            for (numbers, most), across in zip(rows, sets(joints)):
                inner = [[sheet.joint(kind) for kind in sheet.ends(name)] for name in names]
                self.assertEqual(numbers, tuple(
                    (0 if set(own) & set(across) else 2) - len([joint for joint in own if joint not in across])
                    for own in inner
                ))
                near = {name: 1 for name, own in zip(names, inner) if set(own) & set(across)}
                self.assertEqual(most, 2 - 2 * number_of_parts(sheet, near, across))
            for amounts in all_amounts(names, 3):
                if all(amounts.values()) and 0 < ways(sheet, amounts) < 200:
                    many = sum(amounts.values())
                    in_one = any(len(parts(many, links)) == 1 for links in piecings(sheet, amounts))
                    holds = all(
                        sum(one * amounts[name] for one, name in zip(numbers, names)) <= most
                        for numbers, most in rows
                    )
                    self.assertEqual(in_one, holds)
                    found[holds] += 1
        self.assertGreater(min(found.values()), 10)

    def test_great_amounts(self):
        rnd = seeded(74)
        for _ in range(60):
            sheet = wide_sheet(rnd, rnd.randint(1, 4), rnd.randint(1, 5))
            sheet, amounts = with_caps(sheet, {name: rnd.randint(1, 30) for name in sheet})
            names = tuple(sheet)
            self.assertTrue(has_piecing(sheet, amounts))
            holds = all(
                sum(one * amounts[name] for one, name in zip(numbers, names)) <= most
                for numbers, most in conditions(sheet, names)
            )
            self.assertEqual(least_pieces(sheet, amounts) == 1, holds)

    def test_eight_joints_and_one_more(self):
        partners = {kind: kind for kind in 'abcdefghi'}
        sheet = Sheet(partners, {'one': tuple('abcd'), 'two': tuple('efgh'), 'six': ('i',)})
        rows = conditions(sheet, ('one', 'two'))
        self.assertEqual((len(rows), rows[0], rows[-1]), (256, ((-2, -2), 2), ((0, 0), -2)))
        with self.assertRaises(TooLarge):
            conditions(sheet, ('one', 'six', 'two'))
        with self.assertRaises(BadBlock):
            conditions(sheet, ('one', 'two', 'six'))

    def test_errors(self):
        for bad in (
            None, (), [], ['cup'], 'cup', ('cup', 'cup'), ('fork', 'cup'), ('bar',), ('cup', 'bar'), (3,), (None,),
            ('cup', 3), ({},), (['cup'],), {'cup': 1}, ('a',), (True,),
        ):
            with self.assertRaises(BadBlock, msg=bad):
                conditions(SHEET, bad)
            with self.assertRaises(BadSheet):
                conditions(None, bad)

    def test_new(self):
        conditions(SHEET, ('cup',)).clear()
        self.assertEqual(len(conditions(SHEET, ('cup',))), 2)
