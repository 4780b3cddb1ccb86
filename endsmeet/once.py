"""Recipes that tell a chain twice."""

from endsmeet.doubles import Doubles, first_pair, mask_of, only, together, within, without
from endsmeet.misfits import fitting_walks
from endsmeet.placing import turned_block, turned_row
from endsmeet.words import is_int


def _way_back(doubles, layers, pair):
    """The pairs of a way that ends with one in the last one of some layers, of which each comes of the one before."""
    found = [pair]
    for layer in layers[-2::-1]:
        pair = first_pair(within(doubles.backward(only(pair)), layer))
        found.append(pair)
    return found[::-1]


def _rows_apart(doubles, layers, pair):
    """The pairs of two unlike rows that end with a pair; the layers tell apart pairs with rows alike so far, too."""
    found = [pair]
    is_apart = True
    places = doubles.walks.places
    for plain, apart in layers[-2::-1]:
        before = doubles.backward(only(pair))
        near = within(before, apart) if is_apart else {}
        if not near:
            # Rows that were alike so far are told apart by this very pair.
            is_apart = False
            near = within(before, plain)
        pair = first_pair(near)
        found.append(pair)
    return [(places[one], places[other]) for one, other in found[::-1]]


def _one_word_twice(walks):
    """The pairs of text places of two unlike rows of one word, a shortest one; None if there are none."""
    doubles = Doubles(walks, False)
    alike = {}
    for spot, place in enumerate(walks.places):
        alike[spot] = mask_of([other for other, there in enumerate(walks.places) if there == place])
    ended = doubles.endings()
    begun = doubles.beginnings()
    plain, apart = within(begun, alike), without(begun, alike)
    all_plain, all_apart = plain, apart
    layers = []
    while plain or apart:
        layers.append((plain, apart))
        done = within(apart, ended)
        if done:
            return _rows_apart(doubles, layers, first_pair(done))
        near = doubles.onward(plain)
        apart = without(together(doubles.onward(apart), without(near, alike)), all_apart)
        plain = without(within(near, alike), all_plain)
        all_plain, all_apart = together(all_plain, plain), together(all_apart, apart)
    return None


class Unturned:
    """The search for a shortest word that is not its own turning, and whose turning is a word, too.

    There are two positions, as far from the front as from the back, perhaps the same, whose placed blocks are not
    turnings of one another. So for each distance a shortest way is looked for between two such placed blocks.
    """

    def __init__(self, walks):
        self.doubles = Doubles(walks, True)
        self.kept = self.doubles.live()
        self.fronts = [within(self.doubles.beginnings(), self.kept)]
        self.backs = [within(self.doubles.endings(), self.kept)]
        self.best = None

    def search(self, most):
        """The pairs of spots of the walks along a shortest word and its turning, if it has at most so many blocks,
        or any number, if this is None."""
        self.best = None
        seen = {}
        now = self.state()
        while now not in seen and self.fronts[-1] and (most is None or 2 * len(self.fronts) - 1 <= most):
            seen[now] = True
            for sign in self.signs_in(self.fronts[-1]):
                found = self.way_from(sign, None if most is None else most - 2 * len(self.fronts) + 2)
                if found is not None:
                    self.best = self.whole_way(found)
                    most = len(self.best) - 1
            self.fronts.append(within(self.doubles.onward(self.fronts[-1]), self.kept))
            self.backs.append(within(self.doubles.backward(self.backs[-1]), self.kept))
            now = self.state()
        return self.best

    def state(self):
        """The present pairs at the front and at the back."""
        return tuple(sorted(self.fronts[-1].items())), tuple(sorted(self.backs[-1].items()))

    def signs_in(self, pairs):
        """The ascending list of the placed blocks that the first walk passes at some pairs."""
        return sorted(set([self.doubles.signs[spot] for spot in pairs]))

    def way_from(self, sign, most):
        """The layers of pairs of a shortest way with at most so many of them, from a placed block at the present front
        to one at the present back that is not its turning, and the last pair; None if there is none."""
        signs = self.doubles.signs
        facing = turned_block(self.doubles.walks.sheet, sign)
        targets = {spot: mask for spot, mask in self.backs[-1].items() if signs[spot] != facing}
        layers = [{spot: mask for spot, mask in self.fronts[-1].items() if signs[spot] == sign}]
        seen = layers[0]
        while targets and layers[-1] and (most is None or len(layers) <= most):
            done = within(layers[-1], targets)
            if done:
                return layers, first_pair(done)
            layers.append(without(within(self.doubles.onward(layers[-1]), self.kept), seen))
            seen = together(seen, layers[-1])
        return None

    def whole_way(self, told):
        """The pairs of a whole way, of which the middle is told."""
        layers, last = told
        middle = _way_back(self.doubles, layers, last)
        front = _way_back(self.doubles, self.fronts, middle[0])
        back = [last]
        for layer in self.backs[-2::-1]:
            back.append(first_pair(within(self.doubles.onward(only(back[-1])), layer)))
        return front[:-1] + middle + back[1:]


def _unlike_rows(walks):
    """Two unlike rows of the same chain with as few blocks as can be, or None."""
    best = None
    found = _one_word_twice(walks)
    if found is not None:
        best = [one for one, _ in found], [other for _, other in found]
    way = Unturned(walks).search(None if best is None else len(best[0]) - 1)
    if way is not None:
        best = [walks.places[one] for one, _ in way], [walks.places[other] for _, other in way[::-1]]
    return best


def _is_row(walks, row):
    """Whether a list of numbers is a row of a word that is not empty."""
    if not all([is_int(place) for place in row]):
        return False
    now = {spot: True for spot in walks.firsts}
    reached = []
    for place in row:
        reached = [spot for spot in now if walks.places[spot] == place]
        now = {other: True for spot in reached for other in walks.after[spot]}
    return any([spot in walks.lasts for spot in reached])


class Twice:
    """Two unlike rows of the same chain, which has as few blocks as can be."""

    def __init__(self, one_row, other_row):
        self.one_row = list(one_row)
        self.other_row = list(other_row)

    def shows(self, sheet, recipe):
        """Whether the rows are as described for a recipe."""
        walks = fitting_walks(sheet, recipe)
        one, other = self.one_row, self.other_row
        found = _unlike_rows(walks)
        if found is None or not isinstance(one, list) or not isinstance(other, list) or one == other:
            return False
        if len(one) != len(found[0]) or not _is_row(walks, one) or not _is_row(walks, other):
            return False
        word, other_word = [walks.placed[place] for place in one], [walks.placed[place] for place in other]
        return word == other_word or word == turned_row(sheet, other_word)

    def __eq__(self, other):
        return isinstance(other, Twice) and self.one_row == other.one_row and self.other_row == other.other_row


def told_twice(sheet, recipe):
    """A Twice of a recipe, or None if it tells each of its chains once."""
    found = _unlike_rows(fitting_walks(sheet, recipe))
    return None if found is None else Twice(found[0], found[1])
