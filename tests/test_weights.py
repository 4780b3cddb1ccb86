import unittest

from endsmeet.errors import BadNumber, BadWeights, TooLarge
from endsmeet.sheets import Sheet
from endsmeet.weights import Spectrum, chain_of_total, spectrum
from tests.family_support import BAD_FOR_INT, MIXED, PR, SHEET, fam, random_families, row
from tests.recipe_support import placed_blocks
from tests.support import seeded

BAD_WEIGHTS = (
    None, [], 'weights', 5, (), {}, {'p': 1}, {'r': 1}, {'p': 1, 'r': 0}, {'p': 101, 'r': 1}, {'p': 1, 'r': -1},
    {'p': 1, 'r': None}, {'p': True, 'r': 1}, {'p': 1, 'r': '1'}, {'p': 1.0, 'r': 1}, {'p': 1, 'R': 1}, [('p', 1), ('r', 1)],
)


def told(found):
    return [found.threshold, found.period, found.below, found.rests]


def states_by_total(found, weights, most):
    """For each total up to one the states to which words with it lead, by a plain walk."""
    arrows, ends = found.table()
    states = [set() for _ in range(most + 101)]
    states[0].add(0)
    for total in range(most + 1):
        for state, sign, other in arrows:
            if state in states[total]:
                states[total + weights[sign[0]]].add(other)
    return states[:most + 1], set(ends)


def plain_totals(found, weights, most):
    states, ends = states_by_total(found, weights, most)
    return [bool(some & ends) for some in states]


class Spectra(unittest.TestCase):
    def test_ordinary(self):
        found = spectrum(fam('p* (p | r) r*'), {'p': 5, 'r': 3})
        self.assertEqual(told(found), [8, 1, [3, 5, 6], [0]])
        self.assertEqual([found.last_lacking(), found.is_endless()], [7, True])
        self.assertEqual([found.has(total) for total in range(10)], [False] * 3 + [True, False, True, True, False, True, True])
        self.assertIs(found.has(10 ** 30), True)

    def test_no_totals_and_finitely_many(self):
        none = spectrum(fam('p').both(fam('r')), {'p': 100, 'r': 1})
        self.assertEqual(told(none), [0, 1, [], []])
        self.assertEqual([none.has(0), none.has(7), none.is_endless(), none.last_lacking()], [False, False, False, None])
        some = spectrum(fam('p{2..4} r?'), {'p': 5, 'r': 3})
        self.assertEqual(told(some), [24, 1, [10, 13, 15, 18, 20, 23], []])
        self.assertEqual([some.is_endless(), some.last_lacking(), some.has(23), some.has(24)], [False, None, True, False])
        self.assertEqual(told(spectrum(fam('p'), {'p': 1, 'r': 1})), [2, 1, [1], []])

    def test_endlessly_many(self):
        self.assertEqual(told(spectrum(fam('p+'), {'p': 1, 'r': 1})), [1, 1, [], [0]])
        self.assertEqual(spectrum(fam('p+'), {'p': 1, 'r': 1}).last_lacking(), 0)
        self.assertEqual(told(spectrum(fam('(p p)* p'), {'p': 1, 'r': 1})), [0, 2, [], [1]])
        self.assertEqual(told(spectrum(fam('p+'), {'p': 100, 'r': 1})), [1, 100, [], [0]])
        self.assertEqual(spectrum(fam('p+'), {'p': 2, 'r': 1}).last_lacking(), None)
        found = spectrum(fam('(p{2})+ | (p{3})+'), {'p': 1, 'r': 1})
        self.assertEqual(told(found), [1, 6, [], [0, 2, 3, 4]])
        self.assertEqual([found.last_lacking(), found.has(0), found.has(6 * 10 ** 20 + 3)], [None, False, True])
        self.assertEqual(told(spectrum(fam('p{5} r* | p'), {'p': 2, 'r': 4})), [7, 4, [2], [2]])

    def test_least_periods_and_thresholds(self):
        # The states repeat themselves with longer periods than the totals do.
        found = spectrum(fam('(p p p p)+ | (p p p p)* p p'), {'p': 1, 'r': 1})
        self.assertEqual(told(found), [1, 2, [], [0]])
        sheet = Sheet({'k': 'k'}, {'p': ('k', 'k'), 'q': ('k', 'k'), 'r': ('k', 'k')})
        found = spectrum(fam('(p q r)* (p | p q | p q r)', sheet), {'p': 1, 'q': 1, 'r': 1})
        self.assertEqual(told(found), [1, 1, [], [0]])
        found = spectrum(fam('(p q r)* (p | p q r)', sheet), {'p': 1, 'q': 2, 'r': 1})
        self.assertEqual(told(found), [1, 4, [], [0, 1]])
        with self.assertRaises(TooLarge):
            spectrum(fam('(p | r)+'), {'p': 99, 'r': 100})
        self.assertEqual(told(spectrum(fam('(p | r)+'), {'p': 9, 'r': 10}))[:2], [72, 1])
        self.assertEqual(spectrum(fam('(p | r)+'), {'p': 9, 'r': 10}).last_lacking(), 71)

    def test_held_against_a_plain_walk(self):
        rnd = seeded(200)
        endless = 0
        for sheet, recipe, found, most, words in random_families(rnd, 200):
            weights = {name: rnd.randint(1, rnd.choice((1, 3, 10))) for name in sheet}
            weights['what'] = None
            try:
                totals = spectrum(found, weights)
            except TooLarge:
                continue
            plain = plain_totals(found, weights, totals.threshold + 3 * totals.period + 50)
            self.assertEqual([totals.has(total) for total in range(len(plain))], plain)
            listed = {sum(weights[name] for name, _ in word) for word in words}
            self.assertTrue(all(totals.has(total) for total in listed))
            least = totals.threshold
            self.assertTrue(least == 0 or plain[least - 1] != plain[least - 1 + totals.period])
            tail = plain[least:least + totals.period]
            for shift in range(1, totals.period):
                self.assertNotEqual(tail[shift:] + tail[:shift], tail)
            self.assertEqual(totals.below, [total for total in range(least) if plain[total]])
            self.assertEqual(totals.rests, sorted(set(totals.rests)))
            lacking = [total for total in range(1, len(plain)) if not plain[total]]
            if len(totals.rests) == totals.period:
                self.assertEqual(totals.last_lacking(), lacking[-1] if lacking else 0)
            else:
                self.assertIsNone(totals.last_lacking())
            self.assertIs(totals.is_endless(), found.is_endless())
            endless += totals.is_endless()
        self.assertGreater(endless, 30)

    def test_large_machines(self):
        circle = fam('((p{20}){2})+').both(fam('((p{7}){7})+'))
        self.assertEqual(told(spectrum(circle, {'p': 1, 'r': 1})), [1, 1960, [], [0]])
        with self.assertRaises(TooLarge):
            spectrum(circle, {'p': 2, 'r': 1})
        found = spectrum(fam('(p{20}){2} ((p{20}){3})*'), {'p': 30, 'r': 1})
        self.assertEqual(told(found), [0, 1800, [], [1200]])

    def test_just_at_3000_and_beyond(self):
        # The states for the totals from 1 on are those for the totals greater by that of the circle.
        self.assertEqual(told(spectrum(fam('(p{20} p{9} r)+'), {'p': 100, 'r': 99})), [1, 2999, [], [0]])
        with self.assertRaises(TooLarge):
            spectrum(fam('(p{20} p{9} r)+'), {'p': 100, 'r': 100})
        self.assertEqual(spectrum(fam('(p{20} p{17})+'), {'p': 81, 'r': 1}).period, 2997)
        with self.assertRaises(TooLarge):
            spectrum(fam('((p{20}){3})+'), {'p': 50, 'r': 1})

    def test_wrong_arguments(self):
        for bad in BAD_WEIGHTS:
            with self.assertRaises(BadWeights, msg=bad):
                spectrum(fam('p+'), bad)
            with self.assertRaises(BadWeights, msg=bad):
                chain_of_total(fam('p+'), bad, None)
        self.assertEqual(told(spectrum(fam('x', MIXED), {'x': 1, 'y': 100, 'z': 1, 'own': 7, 'mix': 5, 'cap': 0, 5: 6})),
                         [2, 1, [1], []])
        with self.assertRaises(BadWeights):
            spectrum(fam('x', MIXED), {'x': 1, 'y': 100, 'z': 1, 'own': 7})
        found = spectrum(fam('p+'), {'p': 1, 'r': 1})
        for bad in BAD_FOR_INT + (-1,):
            with self.assertRaises(BadNumber):
                found.has(bad)


class ChainsOfTotals(unittest.TestCase):
    def test_ordinary(self):
        self.assertEqual(chain_of_total(fam('p{3} r'), {'p': 2, 'r': 5}, 11) in (row('p p p r'), row('r p p p')), True)
        self.assertEqual(chain_of_total(fam('p{3} r'), {'p': 2, 'r': 5}, 10), None)
        self.assertEqual(chain_of_total(fam('p*'), {'p': 1, 'r': 5}, 0), None)
        self.assertEqual(chain_of_total(fam('p*'), {'p': 1, 'r': 5}, 3000), row('p ' * 3000))
        self.assertEqual(chain_of_total(fam('p').both(fam('r')), {'p': 1, 'r': 5}, 5), None)
        for bad in BAD_FOR_INT + (-1, 3001, 10 ** 30):
            with self.assertRaises(BadNumber):
                chain_of_total(fam('p'), {'p': 1, 'r': 1}, bad)

    def test_held_against_a_plain_walk(self):
        rnd = seeded(201)
        for sheet, recipe, found, _, _ in random_families(rnd, 80):
            weights = {name: rnd.randint(1, 12) for name, _ in placed_blocks(sheet)}
            plain = plain_totals(found, weights, 60)
            for total in range(61):
                chain = chain_of_total(found, weights, total)
                self.assertIs(chain is not None, plain[total])
                if chain is not None:
                    self.assertTrue(found.has(chain))
                    self.assertEqual(sum(weights[name] for name, _ in chain), total)


class Evidence(unittest.TestCase):
    def test_equal_and_copied(self):
        below, rests = [3], [0]
        one = Spectrum(5, 2, tuple(below), tuple(rests))
        other = Spectrum(5, 2, below, rests)
        self.assertIsInstance(one.below, list)
        self.assertIsInstance(one.rests, list)
        below.append(4)
        rests.append(1)
        self.assertEqual(one, other)
        for unlike in (
            Spectrum(6, 2, [3], [0]), Spectrum(5, 3, [3], [0]), Spectrum(5, 2, [], [0]), Spectrum(5, 2, [3], []), None,
        ):
            self.assertNotEqual(one, unlike)

    def test_changed(self):
        found = Spectrum(5, 2, [3], [0])
        self.assertEqual([found.has(3), found.has(4), found.has(6), found.has(7)], [True, False, True, False])
        self.assertEqual(found.last_lacking(), None)
        found.rests.append(1)
        self.assertEqual([found.has(7), found.last_lacking()], [True, 4])
        found.below = [1, 2, 3, 4]
        self.assertEqual(found.last_lacking(), 0)
        found.rests = []
        self.assertIs(found.is_endless(), False)

    def test_new_lists(self):
        one, other = [spectrum(fam('p{2} r*', PR), {'p': 2, 'r': 3}) for _ in range(2)]
        one.below.append(1)
        self.assertNotEqual(one, other)
        self.assertEqual(SHEET, fam('x', SHEET).sheet)
