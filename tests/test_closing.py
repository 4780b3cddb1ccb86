import unittest

from endsmeet.closing import Most, always_one, first_unlike, least_closings, most
from endsmeet.errors import BadAmounts, BadSheet, NotBalanced, TooLarge
from endsmeet.sheets import Sheet
from tests.support import AB, ABC, all_amounts, has_piecing, parts, piecings, random_sheet, seeded
from tests.test_joining import BAD_AMOUNTS

SHEET = Sheet(AB, {'fork': ('a', 'a'), 'cup': ('b',), 'rod': ('a', 'b')})
FULL = {'fork': 1, 'cup': 2, 'rod': 3}


def is_below(one, other):
    return all(one[name] <= other[name] for name in one)


def plain_closings(sheet, most_of_each):
    """The least closings with at most so many of each block, in order."""
    found = []
    names = sheet.names()
    for amounts in sorted(all_amounts(names, most_of_each), key=lambda some: sum(some.values())):
        if any(amounts.values()) and has_piecing(sheet, amounts):
            if not any(is_below(less, amounts) for less in found):
                found.append(amounts)
    return sorted(found, key=lambda some: (sum(some.values()), [some[name] for name in names]))


class LeastClosings(unittest.TestCase):
    def test_ordinary(self):
        found = least_closings(SHEET)
        self.assertEqual(found, [{'cup': 0, 'fork': 0, 'rod': 1}, {'cup': 2, 'fork': 1, 'rod': 0}])
        self.assertEqual([list(amounts) for amounts in found], [['cup', 'fork', 'rod']] * 2)

    def test_edges(self):
        self.assertEqual(least_closings(Sheet(AB, {})), [])
        self.assertEqual(least_closings(Sheet(AB, {'cup': ('b',)})), [])
        self.assertEqual(least_closings(Sheet({'c': 'c'}, {'cap': ('c',)})), [{'cap': 2}])
        self.assertEqual(least_closings(Sheet({'c': 'c'}, {'box': ('c', 'c', 'c', 'c')})), [{'box': 1}])
        self.assertEqual(
            least_closings(Sheet({'c': 'c'}, {'cap': ('c',), 'hub': ('c', 'c', 'c')})),
            [{'cap': 0, 'hub': 2}, {'cap': 1, 'hub': 1}, {'cap': 2, 'hub': 0}],
        )

    def test_great_ones(self):
        sheet = Sheet(
            {'a': 'b', 'b': 'a', 'c': 'd', 'd': 'c', 'e': 'f', 'f': 'e'},
            {'w': ('a', 'a', 'a', 'a'), 'x': ('b', 'c', 'c', 'c'), 'y': ('d', 'e', 'e', 'e'), 'z': ('f',)},
        )
        self.assertEqual(least_closings(sheet), [{'w': 1, 'x': 4, 'y': 12, 'z': 36}])

    def test_held_against_plain_counting(self):
        rnd = seeded(10)
        for _ in range(120):
            sheet = random_sheet(rnd, rnd.randint(1, 3), rnd.randint(1, 3))
            top = 12 if len(sheet) < 3 else 9
            found = least_closings(sheet)
            small = [amounts for amounts in found if max(amounts.values()) <= top]
            self.assertEqual(small, plain_closings(sheet, top))
            self.assertTrue(all(has_piecing(sheet, amounts) for amounts in found))
            for amounts in found:
                self.assertFalse([less for less in found if less != amounts and is_below(less, amounts)])

    def test_held_against_plain_counting_with_six_blocks(self):
        rnd = seeded(11)
        for _ in range(12):
            sheet = random_sheet(rnd, 3, 6)
            small = [amounts for amounts in least_closings(sheet) if max(amounts.values()) <= 3]
            self.assertEqual(small, plain_closings(sheet, 3))

    def test_six_blocks_and_three_joints_and_one_more(self):
        rnd = seeded(12)
        for _ in range(60):
            least_closings(random_sheet(rnd, 3, 6))
        partners = {kind: kind for kind in 'abcd'}
        for joints, blocks in ((4, 6), (3, 7), (4, 0)):
            sheet = Sheet({kind: kind for kind in 'abcd'[:joints]}, {name: ('a',) for name in 'mnopqrs'[:blocks]})
            with self.assertRaises(TooLarge):
                least_closings(sheet)
        self.assertEqual(len(partners), 4)
        sheet = Sheet({kind: kind for kind in 'abc'}, {name: ('a',) for name in 'mnopqr'})
        self.assertEqual(len(least_closings(sheet)), 21)

    def test_bad_sheet(self):
        with self.assertRaises(BadSheet):
            least_closings({'a': 'b'})

    def test_new(self):
        least_closings(SHEET)[0].clear()
        self.assertEqual(len(least_closings(SHEET)[0]), 3)


class AlwaysOne(unittest.TestCase):
    def test_ordinary(self):
        self.assertIs(always_one(SHEET, {'fork': 1, 'cup': 2}), True)
        self.assertIs(always_one(SHEET, {'fork': 1, 'cup': 2, 'rod': 1}), False)
        self.assertIs(always_one(SHEET, {}), False)
        self.assertIs(always_one(SHEET, {'rod': 0}), False)

    def test_bounds(self):
        self.assertIs(always_one(SHEET, {'rod': 2999}), False)
        with self.assertRaises(TooLarge):
            always_one(SHEET, {'rod': 3000})
        with self.assertRaises(NotBalanced):
            always_one(SHEET, {'cup': 3000})


class MostPieces(unittest.TestCase):
    def test_held_against_plain_counting(self):
        rnd = seeded(13)
        checked = 0
        while checked < 60:
            sheet = random_sheet(rnd)
            for amounts in all_amounts(sheet.names(), 2):
                ends = sum(many * len(sheet.ends(name)) for name, many in amounts.items())
                if not any(amounts.values()) or not has_piecing(sheet, amounts) or ends > 10:
                    continue
                many = [len(parts(sum(amounts.values()), links)) for links in piecings(sheet, amounts)]
                found = most(sheet, amounts)
                self.assertTrue(found.shows(sheet, amounts))
                self.assertEqual(len(found.parts), max(many))
                self.assertIs(always_one(sheet, amounts), set(many) == {1})
                checked += 1

    def test_held_against_plain_search(self):
        def greatest(vectors, amounts, known):
            """The greatest number of parts, by all first parts."""
            if amounts not in known:
                rests = [tuple(many - less for many, less in zip(amounts, part)) for part in vectors if any(part)]
                known[amounts] = max(
                    (1 + greatest(vectors, rest, known) for rest in rests if min(rest) >= 0), default=0)
            return known[amounts]

        rnd = seeded(15)
        unlike = 0
        for _ in range(80):
            sheet = random_sheet(rnd, rnd.randint(1, 3), 4)
            amounts = {name: rnd.randint(0, 6) for name in sheet}
            vectors = [tuple(some.values()) for some in all_amounts(sheet.names(), 6) if has_piecing(sheet, some)]
            vectors = [vector for vector in vectors if all(a <= b for a, b in zip(vector, amounts.values()))]
            amounts = dict(zip(sheet.names(), max(vectors, key=sum)))
            if any(amounts.values()):
                found = most(sheet, amounts)
                self.assertTrue(found.shows(sheet, amounts))
                self.assertEqual(len(found.parts), greatest(vectors, tuple(amounts.values()), {}))
                unlike += len(found.parts) > 1
        self.assertGreater(unlike, 20)

    def test_large_parts_may_be_fewer(self):
        sheet = Sheet(AB, {'left': ('a', 'a', 'a'), 'cap': ('b',), 'cup': ('a',), 'right': ('b', 'b', 'b')})
        amounts = {'left': 1, 'cap': 3, 'cup': 3, 'right': 1}
        self.assertEqual(len(most(sheet, amounts).parts), 4)
        few = Most([{'left': 1, 'cap': 3, 'cup': 0, 'right': 0}, {'left': 0, 'cap': 0, 'cup': 3, 'right': 1}])
        self.assertIs(few.shows(sheet, amounts), False)

    def test_parts(self):
        found = most(SHEET, FULL)
        self.assertEqual(len(found.parts), 4)
        self.assertEqual([list(part) for part in found.parts], [['cup', 'fork', 'rod']] * 4)
        self.assertEqual(sorted(list(part.values()) for part in found.parts), [[0, 0, 1]] * 3 + [[2, 1, 0]])

    def test_bounds(self):
        found = most(SHEET, {'rod': 2999})
        self.assertEqual(len(found.parts), 2999)
        self.assertTrue(found.shows(SHEET, {'rod': 2999}))
        for ask in (most, Most([]).shows):
            with self.assertRaises(TooLarge):
                ask(SHEET, {'rod': 3000})
            with self.assertRaises(TooLarge):
                ask(SHEET, {'rod': 10 ** 40})
        many = Sheet({'c': 'c'}, {'x' + letter: ('c',) for letter in 'abcdefghijk'})
        amounts = {name: 1 for name in many.names()[:10]}
        self.assertEqual(len(most(many, amounts).parts), 5)
        sheet = Sheet(ABC, {'cup': ('b',), 'cap': ('a',), 'top': ('c',)})
        self.assertEqual(len(most(sheet, {'cup': 1, 'cap': 1, 'top': 748}).parts), 375)
        with self.assertRaises(TooLarge):
            most(sheet, {'cup': 1, 'cap': 1, 'top': 750})

    def test_shows(self):
        one, two = {'cup': 0, 'fork': 0, 'rod': 1}, {'cup': 2, 'fork': 1, 'rod': 0}
        self.assertTrue(Most([one, two, one, one]).shows(SHEET, FULL))
        self.assertTrue(Most((two, one, one, one)).shows(SHEET, FULL))
        for parts_told in (
            [], [one, two], [one, two, one], [one, two, one, one, one],
            [{'cup': 2, 'fork': 1, 'rod': 1}, one, one], [{'cup': 0, 'fork': 0, 'rod': 2}, one, two],
            [{'cup': 2, 'fork': 1, 'rod': 3}], [one, two, one, {'rod': 1}], [one, two, one, {}],
            [one, two, one, {'cup': 0, 'fork': 0, 'rod': 1, 'bow': 0}], [one, two, one, {'cup': 0, 'fork': 0, 'bow': 1}],
            [one, two, one, one, {'cup': 0, 'fork': 0, 'rod': 0}],
            [one, two, one, {'cup': 0, 'fork': 0, 'rod': 2}, {'cup': 0, 'fork': 0, 'rod': -1}],
            [{'cup': 2, 'fork': 0, 'rod': 0}, {'cup': 0, 'fork': 1, 'rod': 0}, one, one, one],
            [{'cup': 2, 'fork': 1, 'rod': 1}, one, one, {'cup': 0, 'fork': 0, 'rod': 0}],
            [{'cup': 2, 'fork': 0, 'rod': 0}, {'cup': 0, 'fork': 1, 'rod': 1}, one, one],
            [one, two, one, {'cup': 0, 'fork': 0, 'rod': True}], [one, two, one, {0: 0, 'fork': 0, 'rod': 1}],
        ):
            self.assertIs(Most(parts_told).shows(SHEET, FULL), False, parts_told)
        altered = most(SHEET, FULL)
        altered.parts.pop()
        self.assertIs(altered.shows(SHEET, FULL), False)
        self.assertIs(most(SHEET, FULL).shows(SHEET, {'rod': 4}), False)
        self.assertIs(most(SHEET, {'rod': 4}).shows(SHEET, {'rod': 4, 'cup': 0}), True)

    def test_equal_and_copied(self):
        part = {'cup': 0, 'fork': 0, 'rod': 1}
        told = [part]
        one = Most(told)
        self.assertEqual(one, Most((dict(part),)))
        self.assertNotEqual(one, Most([part, part]))
        self.assertNotEqual(one, [part])
        told.append(part)
        part['rod'] = 5
        self.assertEqual(one.parts, [{'cup': 0, 'fork': 0, 'rod': 1}])
        amounts = {'rod': 2}
        most(SHEET, amounts).parts[0]['rod'] = 7
        self.assertEqual(amounts, {'rod': 2})

    def test_errors(self):
        for ask in (most, Most([]).shows):
            for bad in BAD_AMOUNTS + ({}, {'rod': 0}):
                with self.assertRaises(BadAmounts, msg=bad):
                    ask(SHEET, bad)
                with self.assertRaises(BadSheet):
                    ask(None, bad)
            with self.assertRaises(NotBalanced):
                ask(SHEET, {'cup': 5000})
        for bad in BAD_AMOUNTS:
            with self.assertRaises(BadAmounts):
                always_one(SHEET, bad)
            with self.assertRaises(BadSheet):
                always_one(None, bad)


class FirstUnlike(unittest.TestCase):
    def test_alike(self):
        self.assertIsNone(first_unlike(SHEET, SHEET))
        other = Sheet({'x': 'y', 'y': 'x'}, {'fork': ('y', 'y'), 'cup': ('x',), 'rod': ('y', 'x')})
        self.assertIsNone(first_unlike(SHEET, other))
        self.assertIsNone(first_unlike(Sheet(AB, {}), Sheet({'c': 'c'}, {})))
        self.assertIsNone(first_unlike(Sheet(AB, {'cup': ('b',)}), Sheet(AB, {'cup': ('b', 'b')})))

    def test_unlike(self):
        one, other = Sheet(AB, {'cup': ('b',)}), Sheet({'c': 'c'}, {'cup': ('c',)})
        self.assertEqual(first_unlike(one, other), {'cup': 2})
        self.assertEqual(first_unlike(other, one), {'cup': 2})

    def test_held_against_plain_counting(self):
        rnd = seeded(14)
        found = {True: 0, False: 0}
        for _ in range(150):
            one, other = random_sheet(rnd, 1, 2, 2, 0.5), random_sheet(rnd, 1, 2, 2, 0.5)
            amounts = first_unlike(one, other)
            alike = all(has_piecing(one, some) == has_piecing(other, some) for some in all_amounts(one.names(), 6))
            self.assertEqual(amounts is None, alike)
            found[alike] += 1
            if amounts is not None:
                self.assertEqual(list(amounts), one.names())
                self.assertNotEqual(has_piecing(one, amounts), has_piecing(other, amounts))
        self.assertGreater(min(found.values()), 10)

    def test_errors(self):
        large = Sheet({kind: kind for kind in 'abcd'}, {'cup': ('a',)})
        small = Sheet(AB, {'cup': ('b',)})
        for one, other in ((None, small), (small, None), (small, SHEET), (small, Sheet(AB, {})), (large, SHEET)):
            with self.assertRaises(BadSheet):
                first_unlike(one, other)
        for one, other in ((large, small), (small, large)):
            with self.assertRaises(TooLarge):
                first_unlike(one, other)
