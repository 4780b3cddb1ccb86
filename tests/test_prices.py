import unittest

from endsmeet.errors import BadNumber, BadPrices, BadWeights, TooLarge
from endsmeet.prices import Cheapest, Tariff, cheapest, tariff
from endsmeet.sheets import Sheet
from tests.family_support import BAD_FOR_INT, MIXED, PR, fam, random_families, row
from tests.support import seeded
from tests.test_weights import BAD_WEIGHTS, states_by_total

ONE, WEIGHTS, PRICES = fam('(p | r)+'), {'p': 2, 'r': 3}, {'p': 1, 'r': 1}
BAD_PRICES = (
    None, [], 'prices', 5, (), {}, {'p': 1}, {'r': 1}, {'p': 1, 'r': -1}, {'p': 1, 'r': None}, {'p': True, 'r': 1},
    {'p': 1, 'r': '1'}, {'p': 1.0, 'r': 1}, {'p': 1, 'R': 1}, [('p', 1), ('r', 1)],
)


def told(found):
    return [found.threshold, found.below, found.again, found.step]


def plain_prices(some, weights, prices, most):
    """The least price for each total up to one, by a plain walk."""
    arrows, ends = some.table()
    best = [{} for _ in range(most + 101)]
    best[0][0] = 0
    for total in range(most + 1):
        for state, sign, other in arrows:
            if state in best[total]:
                there = best[total + weights[sign[0]]]
                price = best[total][state] + prices[sign[0]]
                there[other] = min(price, there.get(other, price))
    return [min((price for state, price in best[total].items() if state in ends), default=None) for total in range(most + 1)]


def rises(row_of_prices, start, period):
    """The step by which prices rise from a number on with a period, as far as they are told; None, if they do not."""
    steps = set()
    for at in range(start, len(row_of_prices) - period):
        one, other = row_of_prices[at], row_of_prices[at + period]
        if (one is None) != (other is None):
            return None
        if one is not None:
            steps.add(other - one)
    return None if len(steps) > 1 else max(steps, default=0)


class Tariffs(unittest.TestCase):
    def test_ordinary(self):
        found = tariff(ONE, WEIGHTS, PRICES)
        self.assertEqual(told(found), [2, [None, None], [1, 1, 2], 1])
        self.assertEqual([found.least_at(total) for total in (0, 1, 2, 7, 1000, 10 ** 30)],
                         [None, None, 1, 3, 334, (10 ** 30 + 2) // 3])

    def test_no_totals_and_finitely_many(self):
        none = fam('p').both(fam('r'))
        self.assertEqual(told(tariff(none, WEIGHTS, PRICES)), [0, [], [None], 0])
        self.assertEqual(tariff(none, WEIGHTS, PRICES).least_at(5), None)
        found = tariff(fam('p r? | r'), WEIGHTS, {'p': 7, 'r': 10 ** 20})
        self.assertEqual(told(found), [6, [None, None, 7, 10 ** 20, None, 10 ** 20 + 7], [None], 0])
        self.assertEqual([found.least_at(5), found.least_at(6), found.least_at(10 ** 9)], [10 ** 20 + 7, None, None])

    def test_prices_of_0_and_great_ones(self):
        self.assertEqual(told(tariff(ONE, {'p': 1, 'r': 1}, {'p': 0, 'r': 5})), [1, [None], [0], 0])
        great = 10 ** 40
        self.assertEqual(told(tariff(ONE, {'p': 1, 'r': 1}, {'p': great, 'r': great + 1})), [1, [None], [great], great])
        self.assertEqual(told(tariff(fam('p+'), {'p': 3, 'r': 1}, {'p': 4, 'r': 0})), [1, [None], [None, None, 4], 4])
        self.assertEqual(told(tariff(fam('(p p)* p'), {'p': 1, 'r': 1}, {'p': 4, 'r': 0})), [0, [], [None, 4], 8])

    def test_least_periods(self):
        # The states repeat themselves with longer periods than the prices do.
        sheet = Sheet({'k': 'k'}, {'p': ('k', 'k'), 'q': ('k', 'k'), 'r': ('k', 'k')})
        ones = {'p': 1, 'q': 1, 'r': 1}
        whole = fam('(p q r)* (p | p q | p q r)', sheet)
        self.assertEqual(told(tariff(whole, ones, ones)), [1, [None], [1], 1])
        self.assertEqual(told(tariff(whole, ones, {'p': 1, 'q': 0, 'r': 2})), [1, [None], [1, 1, 3], 3])

    def test_prices_that_catch_up(self):
        # The block that costs more for its weight is cheaper at first.
        found = tariff(fam('p+ | r{2}'), {'p': 1, 'r': 1}, {'p': 3, 'r': 2})
        self.assertEqual(told(found), [3, [None, 3, 4], [9], 3])
        found = tariff(fam('p{20} r* | r{1..20} r{0..5}'), {'p': 1, 'r': 1}, {'p': 3, 'r': 2})
        self.assertEqual(told(found), [26, [None] + [2 * total for total in range(1, 26)], [72], 2])

    def test_held_against_a_plain_walk(self):
        rnd = seeded(270)
        seen = {}
        for sheet, recipe, some, most, words in random_families(rnd, 250):
            weights = {name: rnd.randint(1, rnd.choice((1, 3, 8))) for name in sheet}
            prices = {name: rnd.randint(0, rnd.choice((1, 5, 30))) for name in sheet}
            weights['what'], prices[5] = None, 'what'
            try:
                found = tariff(some, weights, prices)
            except TooLarge:
                continue
            period = len(found.again)
            plain = plain_prices(some, weights, prices, found.threshold + 4 * period + 60)
            self.assertEqual([found.least_at(total) for total in range(len(plain))], plain)
            self.assertEqual(len(found.below), found.threshold)
            if found.threshold:
                self.assertNotEqual(rises(plain[found.threshold - 1:], 0, period), found.step)
            for less in range(1, period):
                self.assertIsNone(rises(plain, found.threshold, less))
            for word in words:
                total, price = sum(weights[name] for name, _ in word), sum(prices[name] for name, _ in word)
                self.assertLessEqual(found.least_at(total), price)
            seen[period > 1, found.step > 0] = seen.get((period > 1, found.step > 0), 0) + 1
        self.assertGreater(min(seen.values()), 2)
        self.assertEqual(len(seen), 4)

    def test_just_at_2000_and_beyond(self):
        self.assertEqual(told(tariff(fam('(p{19} r)+'), {'p': 100, 'r': 99}, {'p': 1, 'r': 0}))[3], 19)
        self.assertEqual(len(tariff(fam('(p{19} r)+'), {'p': 100, 'r': 99}, PRICES).again), 1999)
        with self.assertRaises(TooLarge):
            tariff(fam('(p{19} r)+'), {'p': 100, 'r': 100}, PRICES)
        with self.assertRaises(TooLarge):
            tariff(ONE, {'p': 99, 'r': 100}, {'p': 1, 'r': 1})

    def test_states_of_unlike_steps(self):
        # At two states the prices rise by unlike steps, so that they never differ by one and the same number.
        for told_recipe in ('p+ | r r+', 'p+ r | r+ p p', 'p{20} r* | r{2} p*'):
            with self.assertRaises(TooLarge):
                tariff(fam(told_recipe), {'p': 1, 'r': 1}, {'p': 1, 'r': 2})
            self.assertEqual(tariff(fam(told_recipe), {'p': 1, 'r': 1}, {'p': 2, 'r': 2}).step, 2)

    def test_errors_in_order(self):
        for bad in BAD_WEIGHTS:
            with self.assertRaises(BadWeights, msg=bad):
                tariff(ONE, bad, None)
        for bad in BAD_PRICES:
            with self.assertRaises(BadPrices, msg=bad):
                tariff(ONE, {'p': 99, 'r': 100}, bad)
        found = tariff(ONE, WEIGHTS, PRICES)
        for bad in BAD_FOR_INT + (-1,):
            with self.assertRaises(BadNumber):
                found.least_at(bad)
        with self.assertRaises(BadPrices):
            tariff(fam('x', MIXED), {name: 1 for name in MIXED}, {'x': 1, 'y': 1, 'z': 1, 'own': 1})
        self.assertEqual(tariff(fam('x', MIXED), {name: 1 for name in MIXED}, {name: 1 for name in MIXED}).least_at(1), 1)


class CheapestChains(unittest.TestCase):
    def test_ordinary(self):
        found = cheapest(ONE, WEIGHTS, PRICES, 6)
        self.assertEqual([found.chain, found.cost], [row('r r'), 2])
        self.assertEqual(found.worths, [[None, 0], [None, None], [1, 1], [1, 1], [2, 2], [2, 2], [2, 2]])
        self.assertIs(found.shows(ONE, WEIGHTS, PRICES, 6), True)

    def test_no_chain(self):
        for total in (0, 1):
            self.assertEqual(cheapest(ONE, WEIGHTS, PRICES, total), None)
        self.assertEqual(cheapest(fam('p').both(fam('r')), WEIGHTS, PRICES, 3), None)
        self.assertIs(Cheapest([], 0, [[0, 0]]).shows(ONE, WEIGHTS, PRICES, 0), False)
        self.assertIs(Cheapest([], 0, [[None, 0]]).shows(ONE, WEIGHTS, PRICES, 0), False)

    def test_held_against_a_plain_walk(self):
        rnd = seeded(271)
        found = 0
        for sheet, recipe, some, _, _ in random_families(rnd, 100):
            weights = {name: rnd.randint(1, 4) for name in sheet}
            prices = {name: rnd.choice((0, 1, 7, 10 ** 30)) for name in sheet}
            plain = plain_prices(some, weights, prices, 25)
            for total in range(26):
                told_cheapest = cheapest(some, weights, prices, total)
                self.assertIs(told_cheapest is None, plain[total] is None)
                if told_cheapest is not None:
                    self.assertEqual(told_cheapest.cost, plain[total])
                    self.assertIs(told_cheapest.shows(some, weights, prices, total), True)
                    self.assertIs(told_cheapest.shows(some, weights, prices, total + 1), False)
                    found += 1
        self.assertGreater(found, 150)

    def test_bound(self):
        # Two states: totals up to 2499.
        found = cheapest(ONE, {'p': 1, 'r': 100}, PRICES, 2499)
        self.assertEqual(found.cost, 24 + 99)
        for ask in (cheapest, found.shows):
            with self.assertRaises(TooLarge):
                ask(ONE, {'p': 1, 'r': 100}, PRICES, 2500)
        self.assertEqual(cheapest(fam('p{2}'), WEIGHTS, PRICES, 1665), None)
        with self.assertRaises(TooLarge):
            # Three states, and 1667 rests: 5001.
            cheapest(fam('p{2}'), WEIGHTS, PRICES, 1666)
        self.assertEqual(cheapest(fam('p{4}'), WEIGHTS, PRICES, 999), None)
        with self.assertRaises(TooLarge):
            cheapest(fam('p{4}'), WEIGHTS, PRICES, 1000)

    def test_errors_in_order(self):
        for ask in (cheapest, Cheapest([], 0, []).shows):
            for bad in BAD_WEIGHTS:
                with self.assertRaises(BadWeights, msg=bad):
                    ask(ONE, bad, None, None)
            for bad in BAD_PRICES:
                with self.assertRaises(BadPrices, msg=bad):
                    ask(ONE, WEIGHTS, bad, None)
            for bad in BAD_FOR_INT + (-1,):
                with self.assertRaises(BadNumber):
                    ask(ONE, WEIGHTS, PRICES, bad)
            with self.assertRaises(TooLarge):
                ask(ONE, WEIGHTS, PRICES, 10 ** 30)


class Evidence(unittest.TestCase):
    worths = [[None, 0], [None, None], [1, 1], [1, 1], [2, 2]]

    def shown(self, chain, cost, worths, total=4):
        return Cheapest(chain, cost, worths).shows(ONE, WEIGHTS, PRICES, total)

    def test_altered(self):
        self.assertIs(self.shown(row('p p'), 2, self.worths), True)
        for chain, cost in (
            (row('p'), 2), (row('p r'), 2), (row('r'), 1), ([], 2), ([], 0), (row('p p'), 1), (row('p p'), 3),
            (row('p p'), True), ([('what', 0)], 2), ([('p', 1), ('p', 0)], 2), (row('p p p'), 3), ([None], 2),
        ):
            self.assertIs(self.shown(chain, cost, self.worths), False, (chain, cost))
        for rest in range(5):
            for state in range(2):
                worth = self.worths[rest][state]
                for other in (None, -5, 0, 1, 2, 3, 10 ** 30):
                    worths = [list(row_told) for row_told in self.worths]
                    worths[rest][state] = other
                    # A lesser value may do where what goes on to it stays as great as it is.
                    self.assertIs(self.shown(row('p p'), 2, worths), self.is_right(worths), (rest, state, other, worth))
        for worths in (
            [], self.worths[:-1], self.worths + [[2, 2]], [told_row[:1] for told_row in self.worths], [[]] * 5,
            [told_row + [None] for told_row in self.worths], self.worths[::-1],
        ):
            self.assertIs(self.shown(row('p p'), 2, worths), False)
        found = cheapest(ONE, WEIGHTS, PRICES, 6)
        found.worths[6][0] = 1
        self.assertIs(found.shows(ONE, WEIGHTS, PRICES, 6), False)

    def is_right(self, worths):
        arrows, ends = ONE.table()
        for rest in range(5):
            for state in range(2):
                least = [0] if rest == 0 and state in ends else []
                for start, sign, other in arrows:
                    if start == state and WEIGHTS[sign[0]] <= rest:
                        worth = worths[rest - WEIGHTS[sign[0]]][other]
                        if worth is not None:
                            least.append(PRICES[sign[0]] + worth)
                worth = worths[rest][state]
                if (worth is None) != (not least) or least and worth > min(least):
                    return False
        return worths[4][0] == 2

    def test_lesser_values_off_the_way(self):
        worths = [list(told_row) for told_row in self.worths]
        worths[3][0] = -100
        self.assertIs(self.shown(row('p p'), 2, worths), True)
        worths[4][1] = -100
        self.assertIs(self.shown(row('p p'), 2, worths), True)
        worths[4][0] = 1
        self.assertIs(self.shown(row('p p'), 2, worths), False)

    def test_chains_of_other_families_and_dearer_chains(self):
        # Total and price are right, but the chain is not in the family, or the told price is not its price.
        some = fam('p{3} | r p')
        found = cheapest(some, {'p': 1, 'r': 2}, PRICES, 3)
        self.assertEqual(found.cost, 2)
        self.assertIs(Cheapest(row('p r'), 2, found.worths).shows(some, {'p': 1, 'r': 2}, PRICES, 3), True)
        self.assertIs(Cheapest(row('p p p'), 2, found.worths).shows(some, {'p': 1, 'r': 2}, PRICES, 3), False)
        self.assertIs(Cheapest(row('p p p'), 3, found.worths).shows(some, {'p': 1, 'r': 2}, PRICES, 3), False)
        some = fam('p{3} | r r')
        found = cheapest(some, {'p': 2, 'r': 3}, {'p': 1, 'r': 2}, 6)
        self.assertEqual([found.chain, found.cost], [row('p p p'), 3])
        some = fam('p p r r')
        found = cheapest(some, WEIGHTS, PRICES, 10)
        self.assertIs(Cheapest(row('r p p r'), 4, found.worths).shows(some, WEIGHTS, PRICES, 10), False)
        self.assertIs(Cheapest(row('r r p p'), 4, found.worths).shows(some, WEIGHTS, PRICES, 10), True)

    def test_other_family_and_dearer_chain(self):
        self.assertIs(Cheapest(row('p p p'), 3, [[None, 0], [None] * 2, [1, 1], [1, 1], [2, 2], [2, 2], [2, 2]])
                      .shows(ONE, WEIGHTS, PRICES, 6), False)
        self.assertIs(Cheapest(row('p p'), 2, self.worths).shows(fam('p p'), WEIGHTS, PRICES, 4), False)

    def test_equal_and_copied(self):
        chain, worths = row('p p'), [[1, None], [2, 3]]
        one, other = Cheapest(tuple(chain), 2, tuple(map(tuple, worths))), Cheapest(chain, 2, worths)
        chain.clear()
        worths[0].clear()
        worths.clear()
        self.assertEqual(one, other)
        self.assertEqual([one.chain, one.worths], [row('p p'), [[1, None], [2, 3]]])
        for unlike in (
            Cheapest(row('p'), 2, one.worths), Cheapest(row('p p'), 3, one.worths), Cheapest(row('p p'), 2, [[1, None]]), None,
        ):
            self.assertNotEqual(one, unlike)

    def test_tariffs(self):
        below, again = [None], [1, None]
        one, other = Tariff(1, tuple(below), tuple(again), 2), Tariff(1, below, again, 2)
        below.clear()
        again.clear()
        self.assertEqual(one, other)
        self.assertEqual([one.below, one.again], [[None], [1, None]])
        for unlike in (
            Tariff(2, [None], [1, None], 2), Tariff(1, [0], [1, None], 2), Tariff(1, [None], [1], 2),
            Tariff(1, [None], [1, None], 3), None,
        ):
            self.assertNotEqual(one, unlike)
        self.assertEqual([one.least_at(total) for total in range(6)], [None, 1, None, 3, None, 5])
        one.step = 10
        one.below[0] = 7
        self.assertEqual([one.least_at(total) for total in range(6)], [7, 1, None, 11, None, 21])
        self.assertEqual(len(states_by_total(ONE, WEIGHTS, 3)[0]), 4)
        self.assertEqual(PR, ONE.sheet)
