"""The least prices of the chains of families with each total."""

from endsmeet.errors import BadNumber, TooLarge
from endsmeet.linear import check_linear_prices, check_weights
from endsmeet.periods import Repeats, divisors
from endsmeet.placing import is_chain
from endsmeet.words import is_count, is_int

LATEST = 2000
MOST_WORTHS = 5000


class Tariff:
    """The least prices of chains: for the totals less than the threshold, and for those of one period behind it; the
    step is how much greater the price becomes with each period."""

    def __init__(self, threshold, below, again, step):
        self.threshold = threshold
        self.below = list(below)
        self.again = list(again)
        self.step = step

    def least_at(self, total):
        """The least price for a total, or None."""
        if not is_count(total):
            raise BadNumber("the total is not an integer from 0")
        if total < self.threshold:
            return self.below[total]
        times, rest = divmod(total - self.threshold, len(self.again))
        price = self.again[rest]
        return None if price is None else price + times * self.step

    def __eq__(self, other):
        return (
            isinstance(other, Tariff)
            and self.threshold == other.threshold
            and self.below == other.below
            and self.again == other.again
            and self.step == other.step
        )


class Prices:
    """The least prices of the words with each total, from 0 on, that lead to each state."""

    def __init__(self, machine, weights, prices):
        self.machine = machine
        self.steps = [
            [(weights[sign[0]], prices[sign[0]], other) for sign, other in row.items()] for row in machine.arrows
        ]
        self.greatest = max([weight for told in self.steps for weight, _, _ in told], default=1)
        # What the totals found so far lead to.
        self.coming = {0: {0: 0}}
        self.least = []

    def next_total(self):
        """Find the prices for the next total, and return them: a dict from states."""
        total = len(self.least)
        told = self.coming.pop(total, {})
        self.least.append(min([price for state, price in told.items() if self.machine.finals[state]], default=None))
        for state, price in told.items():
            for weight, cost, other in self.steps[state]:
                self.come(total + weight, other, price + cost)
        return told

    def come(self, total, state, price):
        """Let words with a total lead to a state at a price."""
        if total not in self.coming:
            self.coming[total] = {}
        known = self.coming[total]
        if state not in known or known[state] > price:
            known[state] = price


class Rises:
    """Finds the first two totals such that from each on several lead to the same states, at prices that differ by one
    and the same number."""

    def __init__(self, width):
        self.repeats = Repeats(1)
        self.width = width
        self.numbers = {}
        self.told = []

    def tell(self, prices):
        """Tell the prices for the next total; the earlier and the later total, or None."""
        base = min(list(prices.values()), default=None)
        shape = tuple([(state, prices[state] - base) for state in sorted(prices)])
        if shape not in self.numbers:
            self.numbers[shape] = len(self.numbers)
        self.told.append((self.numbers[shape], base))
        place = len(self.told) - self.width
        if place < 0:
            return None
        window = self.told[place:]
        bases = [height for _, height in window if height is not None]
        return self.repeats.tell(tuple([
            (number, None if height is None else height - bases[0]) for number, height in window
        ]))


def _rising(prices):
    """Two totals from which on the prices differ by one and the same number."""
    rises = Rises(prices.greatest)
    # The prices from a total on are told of when the last one of them is found.
    for _ in range(LATEST + prices.greatest):
        found = rises.tell(prices.next_total())
        if found is not None:
            return found
    raise TooLarge("the prices of the totals up to 2000 do not rise by one and the same number")


def _step_of(one, other):
    """By how much the second one of two rows of prices is greater, each time; None, if it is not so; 0 without
    prices."""
    if [price is None for price in one] != [price is None for price in other]:
        return None
    steps = [there - here for here, there in zip(one, other) if here is not None]
    if not steps:
        return 0
    return steps[0] if min(steps) == max(steps) else None


def _is_further(price, other, step):
    """Whether a second price is a first one and a step together, or both are None."""
    if price is None or other is None:
        return price is None and other is None
    return other - price == step


def tariff(family, weights, prices):
    """The Tariff of a family."""
    check_weights(family.sheet, weights)
    check_linear_prices(family.sheet, prices)
    found = Prices(family.machine, weights, prices)
    start, later = _rising(found)
    whole = later - start
    while len(found.least) < later + whole:
        found.next_total()
    least = found.least
    period, step = whole, None
    for part in divisors(whole):
        told = _step_of(least[start:start + whole], least[start + part:start + part + whole])
        if told is not None and step is None:
            period, step = part, told
    while start > 0 and _is_further(least[start - 1], least[start - 1 + period], step):
        start -= 1
    return Tariff(start, least[:start], least[start:start + period], step)


def _check_cheapest(family, weights, prices, total):
    """Raise BadWeights, BadPrices, BadNumber or TooLarge for what cannot be asked for."""
    check_weights(family.sheet, weights)
    check_linear_prices(family.sheet, prices)
    if not is_count(total):
        raise BadNumber("the total is not an integer from 0")
    if (total + 1) * len(family.machine.arrows) > MOST_WORTHS:
        raise TooLarge("there are too many totals for the states of the least machine")


class Ways:
    """What goes on from states with rests of a total."""

    def __init__(self, machine, weights, prices):
        self.machine = machine
        self.weights = weights
        self.prices = prices

    def ways_on(self, worths, rest, state):
        """The prices that go on from a state with a rest, each with its sign, or None for an end; `worths` has the
        values for the lesser rests."""
        found = [(0, None)] if rest == 0 and self.machine.finals[state] else []
        for sign, other in self.machine.arrows[state].items():
            weight = self.weights[sign[0]]
            if weight <= rest and worths[rest - weight][other] is not None:
                found.append((self.prices[sign[0]] + worths[rest - weight][other], sign))
        return found

    def least_worths(self, total):
        """The least prices that go on from each state, for each rest up to a total."""
        worths = []
        for rest in range(total + 1):
            worths.append([
                min([price for price, _ in self.ways_on(worths, rest, state)], default=None)
                for state in range(len(self.machine.arrows))
            ])
        return worths

    def cheapest_row(self, worths, total):
        """A row that goes on from the start with a total at the least price."""
        row = []
        state, rest = 0, total
        while rest > 0:
            ways = self.ways_on(worths, rest, state)
            cheapest_signs = [sign for price, sign in ways if price == worths[rest][state]]
            placed = cheapest_signs[0]
            row.append(placed)
            state = self.machine.arrows[state][placed]
            rest -= self.weights[placed[0]]
        return row

    def are_values(self, worths, total):
        """Whether a value has for each rest and state a number, at most the least that goes on, or None."""
        if not isinstance(worths, list) or len(worths) != total + 1:
            return False
        many = len(self.machine.arrows)
        if not all([isinstance(row, list) and len(row) == many for row in worths]):
            return False
        return all([
            self.is_value(worths, rest, state) for rest in range(total + 1) for state in range(many)
        ])

    def is_value(self, worths, rest, state):
        """Whether the value of a state for a rest is at most the least that goes on, or None if nothing does."""
        least = min([price for price, _ in self.ways_on(worths, rest, state)], default=None)
        worth = worths[rest][state]
        if least is None or worth is None:
            return least is None and worth is None
        return is_int(worth) and worth <= least


class Cheapest:
    """A chain with a told total, its price, and values that show that no such chain has a lesser price."""

    def __init__(self, chain, cost, worths):
        self.chain = list(chain)
        self.cost = cost
        self.worths = [list(row) for row in worths]

    def shows(self, family, weights, prices, total):
        """Whether chain, price and values are as described for a family, weights, prices and a total."""
        _check_cheapest(family, weights, prices, total)
        chain, worths = self.chain, self.worths
        if not is_chain(family.sheet, chain) or not family.machine.takes(chain):
            return False
        if sum([weights[name] for name, _ in chain]) != total:
            return False
        if not is_int(self.cost) or sum([prices[name] for name, _ in chain]) != self.cost:
            return False
        if not Ways(family.machine, weights, prices).are_values(worths, total):
            return False
        return worths[total][0] == self.cost

    def __eq__(self, other):
        return (
            isinstance(other, Cheapest)
            and self.chain == other.chain
            and self.cost == other.cost
            and self.worths == other.worths
        )


def cheapest(family, weights, prices, total):
    """A Cheapest of a family, or None if no chain of it has the total."""
    _check_cheapest(family, weights, prices, total)
    ways = Ways(family.machine, weights, prices)
    worths = ways.least_worths(total)
    if worths[total][0] is None:
        return None
    return Cheapest(ways.cheapest_row(worths, total), worths[total][0], worths)
