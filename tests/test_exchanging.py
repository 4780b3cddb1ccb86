import unittest

from endsmeet.chances import ways
from endsmeet.errors import BadAmounts, BadLinks, BadSheet
from endsmeet.exchanging import Exchanges, exchanges
from endsmeet.joining import is_whole_piecing, joined
from endsmeet.sheets import Sheet
from tests.support import ABC, all_amounts, copies, ends_of, piecings, random_sheet, seeded
from tests.test_joining import BAD_AMOUNTS

SHEET = Sheet(ABC, {'rod': ('a', 'b'), 'cup': ('b',), 'fork': ('a', 'a'), 'cap': ('c',)})
OWN = [((0, 0), (0, 1)), ((1, 0), (1, 1))]
CROSSED = [((0, 0), (1, 1)), ((0, 1), (1, 0))]


def are_near(one, other):
    """Whether one whole piecing comes of another one by an exchange."""
    gone, new = set(one) - set(other), set(other) - set(one)
    return len(gone) == 2 and {place for link in gone for place in link} == {place for link in new for place in link}


def distances(some, first):
    """The least numbers of exchanges from one of some whole piecings to all of them, by going through them."""
    found = {tuple(first): 0}
    waiting = [first]
    for one in waiting:
        for other in some:
            if tuple(other) not in found and are_near(one, other):
                found[tuple(other)] = found[tuple(one)] + 1
                waiting.append(other)
    return found


class Exchanging(unittest.TestCase):
    def test_ordinary(self):
        found = exchanges(SHEET, {'rod': 2}, OWN, CROSSED)
        self.assertEqual(found.steps, [OWN, CROSSED])
        self.assertIs(found.shows(SHEET, {'rod': 2}, OWN, CROSSED), True)
        self.assertIs(found.shows(SHEET, {'rod': 2}, CROSSED, OWN), False)

    def test_nothing_to_do(self):
        self.assertEqual(exchanges(SHEET, {'rod': 2}, OWN, OWN).steps, [OWN])
        self.assertEqual(exchanges(SHEET, {'rod': 1}, OWN[:1], OWN[:1]).steps, [OWN[:1]])
        self.assertEqual(exchanges(SHEET, {}, [], []).steps, [[]])
        self.assertTrue(Exchanges([[]]).shows(SHEET, {}, [], []))
        self.assertFalse(Exchanges([]).shows(SHEET, {}, [], []))

    def test_held_against_plain_counting(self):
        rnd = seeded(61)
        for _ in range(60):
            sheet = random_sheet(rnd, rnd.randint(1, 2), rnd.randint(1, 3))
            for amounts in all_amounts(sheet.names(), 3):
                if not any(amounts.values()) or not 0 < ways(sheet, amounts) < 120:
                    continue
                some = list(piecings(sheet, amounts))
                first = rnd.choice(some)
                least = distances(some, first)
                self.assertEqual(len(least), len(some))
                for last in rnd.sample(some, min(6, len(some))):
                    found = exchanges(sheet, amounts, first, last)
                    self.assertEqual(len(found.steps) - 1, least[tuple(last)])
                    self.assertEqual((found.steps[0], found.steps[-1]), (first, last))
                    for step in found.steps:
                        self.assertTrue(is_whole_piecing(sheet, amounts, step))
                    for one, other in zip(found.steps, found.steps[1:]):
                        self.assertTrue(are_near(one, other))
                    self.assertTrue(found.shows(sheet, amounts, first, last))

    def test_shows_just_what_is_so(self):
        # All rows of whole piecings of three caps more are told right or wrong as plain counting tells.
        sheet, amounts = Sheet({'c': 'c'}, {'cap': ('c',)}), {'cap': 6}
        some = list(piecings(sheet, amounts))
        rnd = seeded(62)
        shown = 0
        for _ in range(2000):
            first, last = rnd.choice(some), rnd.choice(some)
            steps = [first] + [rnd.choice(some) for _ in range(rnd.randint(0, 1))] + [last]
            is_right = all(are_near(one, other) for one, other in zip(steps, steps[1:]))
            is_right = is_right and distances(some, first)[tuple(last)] == len(steps) - 1
            self.assertEqual(Exchanges(steps).shows(sheet, amounts, first, last), is_right)
            shown += is_right
        self.assertGreater(shown, 50)

    def test_many_copies(self):
        rnd = seeded(63)
        for blocks, amounts in (
            ({'rod': ('a', 'b')}, {'rod': 500}), ({'cap': ('c',)}, {'cap': 800}),
            ({'tee': ('a', 'b', 'c'), 'cap': ('c',)}, {'cap': 300, 'tee': 300}),
        ):
            sheet = Sheet(ABC, blocks)
            first = joined(sheet, amounts)
            places = {kind: [] for kind in 'abc'}
            for place, kind in ends_of(sheet, copies(sheet, amounts)):
                places[kind].append(place)
            for some in places.values():
                rnd.shuffle(some)
            pairs = list(zip(places['a'], places['b'])) + list(zip(places['c'][::2], places['c'][1::2]))
            last = sorted(tuple(sorted(pair)) for pair in pairs)
            found = exchanges(sheet, amounts, first, last)
            self.assertGreater(len(found.steps), 300)
            self.assertTrue(found.shows(sheet, amounts, first, last))


class Evidence(unittest.TestCase):
    amounts = {'cap': 6}
    first = [((0, 0), (1, 0)), ((2, 0), (3, 0)), ((4, 0), (5, 0))]
    last = [((0, 0), (2, 0)), ((1, 0), (4, 0)), ((3, 0), (5, 0))]

    def test_altered(self):
        found = exchanges(SHEET, self.amounts, self.first, self.last)
        self.assertEqual(len(found.steps), 3)
        self.assertTrue(found.shows(SHEET, self.amounts, self.first, self.last))
        one, two, three = found.steps
        other = [((0, 0), (4, 0)), ((1, 0), (3, 0)), ((2, 0), (5, 0))]
        for steps in (
            [], [one], [three], [one, three], [one, two], [two, three], [one, two, two, three], [one, one, two, three],
            [one, three, three], [one, one, three], [three, two, one], [one, other, three], [one, [], three],
            [one, two[:2], three], [one, two[::-1], three], [one, two + two[:1], three], [[], two, three],
            [one, two, []], [one, [two[0], two[0], two[2]], three],
            [one, [(two[0][1], two[0][0])] + two[1:], three], [one, two[:2] + [((-7, 9), (10 ** 30, 4))], three],
            [one, two[:2] + [((4, 0), (5, 1))], three], [one, two[:2] + [((4, 0), (6, 0))], three],
        ):
            self.assertIs(Exchanges(steps).shows(SHEET, self.amounts, self.first, self.last), False, steps)
        altered = Exchanges(found.steps)
        altered.steps = found.steps + [three]
        self.assertIs(altered.shows(SHEET, self.amounts, self.first, self.last), False)
        altered.steps = [one, two, three]
        self.assertIs(altered.shows(SHEET, self.amounts, self.first, self.last), True)

    def test_wrong_ends_and_order(self):
        first = [((0, 0), (1, 0)), ((2, 0), (3, 0)), ((4, 0), (5, 0)), ((6, 0), (7, 0))]
        middle = [((0, 0), (1, 0)), ((2, 0), (4, 0)), ((3, 0), (5, 0)), ((6, 0), (7, 0))]
        last = [((0, 0), (1, 0)), ((2, 0), (4, 0)), ((3, 0), (7, 0)), ((5, 0), (6, 0))]
        other = [((0, 0), (1, 0)), ((2, 0), (4, 0)), ((3, 0), (6, 0)), ((5, 0), (7, 0))]
        before = [((0, 0), (1, 0)), ((2, 0), (5, 0)), ((3, 0), (4, 0)), ((6, 0), (7, 0))]
        amounts = {'cap': 8}
        self.assertIs(Exchanges([first, middle, last]).shows(SHEET, amounts, first, last), True)
        for steps in ([first, middle, other], [before, middle, last], [middle, middle, last], [first, middle, middle]):
            self.assertIs(Exchanges(steps).shows(SHEET, amounts, first, last), False, steps)
        for at in range(4):
            for place in range(4):
                mixed = middle[:at] + middle[at + 1:]
                mixed.insert(place, middle[at])
                self.assertIs(Exchanges([first, mixed, last]).shows(SHEET, amounts, first, last), at == place)
        mixed = [middle[1], middle[0], middle[2], middle[3]]
        self.assertIs(Exchanges([first, mixed, last]).shows(SHEET, amounts, first, last), False)

    def test_detours(self):
        sheet = Sheet({'c': 'c'}, {'cap': ('c',)})
        third = [((0, 0), (3, 0)), ((1, 0), (2, 0))]
        first, last = [((0, 0), (1, 0)), ((2, 0), (3, 0))], [((0, 0), (2, 0)), ((1, 0), (3, 0))]
        self.assertIs(Exchanges([first, last]).shows(sheet, {'cap': 4}, first, last), True)
        self.assertIs(Exchanges([first, third, last]).shows(sheet, {'cap': 4}, first, last), False)

    def test_kinds_have_to_fit(self):
        sheet, amounts = Sheet(ABC, {'rod': ('a', 'b')}), {'rod': 2}
        wrong = [((0, 0), (1, 0)), ((0, 1), (1, 1))]
        self.assertIs(Exchanges([OWN, wrong]).shows(sheet, amounts, OWN, CROSSED), False)
        amounts = {'rod': 3}
        first = sorted(OWN + [((2, 0), (2, 1))])
        last = [((0, 0), (1, 1)), ((0, 1), (2, 0)), ((1, 0), (2, 1))]
        self.assertTrue(is_whole_piecing(sheet, amounts, last))
        middle = [((0, 0), (1, 0)), ((0, 1), (1, 1)), ((2, 0), (2, 1))]
        self.assertIs(Exchanges([first, middle, last]).shows(sheet, amounts, first, last), False)
        self.assertIs(exchanges(sheet, amounts, first, last).shows(sheet, amounts, first, last), True)

    def test_equal_and_copied(self):
        given = [list(OWN), tuple(CROSSED)]
        one = Exchanges(given)
        self.assertEqual(one.steps, [OWN, CROSSED])
        self.assertIsInstance(one.steps[1], list)
        self.assertEqual(one, Exchanges((tuple(OWN), CROSSED)))
        self.assertNotEqual(one, Exchanges([OWN]))
        self.assertNotEqual(one, [OWN, CROSSED])
        given[0].pop()
        given.pop()
        self.assertEqual(one, Exchanges([OWN, CROSSED]))
        one.steps = [OWN]
        self.assertEqual(one, Exchanges([OWN]))

    def test_arguments_are_not_kept(self):
        first, last = list(OWN), list(CROSSED)
        found = exchanges(SHEET, {'rod': 2}, first, last)
        self.assertEqual((first, last), (OWN, CROSSED))
        found.steps[0].clear()
        found.steps[-1].clear()
        self.assertEqual((first, last), (OWN, CROSSED))


class Arguments(unittest.TestCase):
    def test_errors(self):
        for ask in (exchanges, Exchanges([]).shows):
            for bad in BAD_AMOUNTS:
                with self.assertRaises(BadAmounts, msg=bad):
                    ask(SHEET, bad, None, None)
            with self.assertRaises(BadSheet):
                ask(None, None, None, None)
            for bad in (None, [], tuple(OWN), OWN[:1], OWN[::-1], OWN + OWN, [OWN[0], ((1, 0), (1, 2))]):
                with self.assertRaises(BadLinks, msg=bad):
                    ask(SHEET, {'rod': 2}, bad, OWN)
                with self.assertRaises(BadLinks, msg=bad):
                    ask(SHEET, {'rod': 2}, OWN, bad)
            with self.assertRaises(BadLinks):
                ask(SHEET, {'rod': 2, 'cap': 1}, OWN, OWN)
