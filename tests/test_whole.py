"""What the document promises over the whole program."""

import itertools
import unittest

from endsmeet import nets
from endsmeet.cutting import fragments
from endsmeet.families import family
from endsmeet.gaps import gaps
from endsmeet.joins import joined
from endsmeet.listing import closed_pieces
from endsmeet.machines import Walks
from endsmeet.misfits import misfit
from endsmeet.nets import Net, least_of
from endsmeet.numbers import count_chains
from endsmeet.once import told_twice
from endsmeet.outdoing import outdoers
from endsmeet.placing import is_chain, ring_form
from endsmeet.prices import tariff
from endsmeet.rings import count_rings, rings_of
from endsmeet.runs import longest_run
from endsmeet.sameness import same
from endsmeet.sheets import Sheet
from endsmeet.stocks import least_amounts
from endsmeet.weights import spectrum
from endsmeet.windows import Known, known_from, pieces
from tests.family_support import PR, check_least, fam, random_families, row, walk
from tests.recipe_support import all_chains, chain_piece, do_meet, placed_blocks
from tests.support import random_sheet, seeded


def all_of(sheet):
    """The family of all chains of a sheet."""
    return joined([family(sheet, ('block',) + placed) for placed in placed_blocks(sheet)])


def renamed(sheet, names, kinds):
    partners = {kinds[kind]: kinds[sheet.partner(kind)] for kind in sheet.kinds()}
    return Sheet(partners, {names[name]: tuple(kinds[kind] for kind in sheet.ends(name)) for name in sheet})


def recipe_with(recipe, names):
    """A recipe with other names."""
    if recipe[0] == 'block':
        return 'block', names[recipe[1]], recipe[2]
    if recipe[0] in ('row', 'either'):
        return recipe[0], tuple(recipe_with(part, names) for part in recipe[1])
    return (recipe[0], recipe_with(recipe[1], names)) + recipe[2:]


def told_with(told, names):
    """A list of placed blocks or signs, or one with lists within it, with other names."""
    if told is None:
        return None
    return [told_with(one, names) if isinstance(one, list) else (names.get(one[0], one[0]),) + one[1:] for one in told]


class RingsAndPieces(unittest.TestCase):
    def test_all_rings_of_linear_blocks_are_the_closed_pieces(self):
        rnd = seeded(300)
        several = 0
        for _ in range(40):
            sheet = random_sheet(rnd, rnd.randint(1, 2), rnd.randint(1, 3), 2, 0.5)
            linear = [name for name in sheet if len(sheet.ends(name)) == 2]
            if not linear:
                continue
            sheet = Sheet({kind: sheet.partner(kind) for kind in sheet.kinds()}, {name: sheet.ends(name) for name in linear})
            whole = all_of(sheet)
            for chain in all_chains(sheet, 3):
                self.assertIs(whole.has(chain), True)
            rings = rings_of(whole)
            for many in range(1, 5):
                numbers = [
                    len(closed_pieces(sheet, dict(zip(linear, amounts))))
                    for amounts in itertools.product(range(many + 1), repeat=len(linear)) if sum(amounts) == many
                ]
                self.assertEqual(count_rings(rings, many), sum(numbers))
                several += sum(numbers)
            for chain in all_chains(sheet, 4):
                if do_meet(sheet, chain[-1], chain[0]):
                    amounts = {name: [one for one, _ in chain].count(name) for name in linear}
                    piece = chain_piece(chain, True)
                    self.assertTrue(any(same(sheet, piece, other) for other in closed_pieces(sheet, amounts)))
                    form = chain_piece(ring_form(sheet, chain), True)
                    self.assertTrue(same(sheet, piece, form))
        self.assertGreater(several, 100)


class FiniteFamilies(unittest.TestCase):
    def test_families_with_finitely_many_chains(self):
        rnd = seeded(301)
        finite = 0
        for sheet, recipe, some, most, words in random_families(rnd, 300):
            weights = {name: rnd.randint(1, 5) for name in sheet}
            prices = {name: rnd.randint(0, 5) for name in sheet}
            names = tuple(sorted({name for name, _ in placed_blocks(sheet)}))
            is_finite = not some.is_endless()
            states = 1 + max([0] + [other for _, _, other in some.table()[0]])
            self.assertIs(spectrum(some, weights).is_endless(), not is_finite)
            found = longest_run(some, names)
            self.assertIs(hasattr(found, 'most'), is_finite)
            if not is_finite:
                continue
            finite += 1
            # A chain is no longer than the machine has states, but for the start.
            longest = found.most
            self.assertLess(longest, states)
            known = known_from(some)
            self.assertIsInstance(known, Known)
            self.assertLessEqual(known.signs, max(2, longest + 1))
            total = sum(count_chains(some, many) for many in range(longest + 1)) if states <= 30 else 0
            if longest <= most and states <= 30:
                listed = {min(word, tuple(turn(sheet, word))) for word in words}
                self.assertEqual(total, len(listed))
                self.assertLessEqual(len(least_amounts(some)), max(total, 0))
            totals = spectrum(some, weights)
            self.assertEqual([totals.period, totals.rests], [1, []])
            prices_told = tariff(some, weights, prices)
            self.assertEqual([prices_told.again, prices_told.step], [[None], 0])
            self.assertEqual([total for total, price in enumerate(prices_told.below) if price is not None], totals.below)
        self.assertGreater(finite, 100)

    def test_recipes_that_tell_each_chain_once_have_as_many_rows_as_chains(self):
        told = 0
        for sheet, recipe, some, most, words in random_families(seeded(302), 200):
            if told_twice(sheet, recipe) is None and len(some.table()[0]) < 28:
                for many in range(1, most + 1):
                    listed = {min(word, tuple(turn(sheet, word))) for word in words if len(word) == many}
                    self.assertEqual(count_chains(some, many), len(listed))
                told += 1
        self.assertGreater(told, 40)


class Together(unittest.TestCase):
    def test_runs_and_gaps_hang_together(self):
        told = 0
        for sheet, recipe, some, _, _ in random_families(seeded(303), 200, 4):
            linear = sorted({name for name, _ in placed_blocks(sheet)})
            for at in range(1, len(linear)):
                names, others = tuple(linear[:at]), tuple(linear[at:])
                gap = gaps(some, names, names)
                run = longest_run(some, others)
                if gap is not None and gap.greatest is None:
                    self.assertFalse(hasattr(run, 'most'))
                elif gap is not None and hasattr(run, 'most'):
                    self.assertLessEqual(gap.greatest, run.most)
                if gap is not None and gap.least == 0:
                    near = longest_run(some, names)
                    self.assertTrue(not hasattr(near, 'most') or near.most >= 2)
                    told += 1
        self.assertGreater(told, 10)

    def test_fragments_put_together(self):
        # With no joint cut the fragments are the chains; of all fragments chains are made that hold those of the family.
        for sheet, recipe, some, _, _ in random_families(seeded(304), 60):
            self.assertEqual(fragments(some, ()).table(), some.table())
            self.assertTrue(some.within(joined([some])))
            self.assertTrue(rings_of(some).within(rings_of(joined([some]))))

    def test_chains_let_in_by_pieces_with_two_signs_are_chains(self):
        for sheet, recipe, some, _, _ in random_families(seeded(305), 60):
            for piece in pieces(some, 3):
                inner = [sign for sign in piece if sign[0]]
                self.assertTrue(not inner or is_chain(sheet, inner))


class OtherNames(unittest.TestCase):
    def test_other_names_in_the_same_order(self):
        rnd = seeded(306)
        for sheet, recipe, some, most, _ in random_families(rnd, 150):
            names = dict(zip(sheet.names(), ['b' + name for name in sorted('kinds block cup zebra'.split())]))
            kinds = dict(zip(sheet.kinds(), sorted('ka kb kc kd ke kf'.split())))
            other_sheet = renamed(sheet, names, kinds)
            other_recipe = recipe_with(recipe, names)
            other = family(other_sheet, other_recipe)
            arrows, ends = some.table()
            self.assertEqual(other.table(), ([
                (state, (names[sign[0]], sign[1]), there) for state, sign, there in arrows
            ], ends))
            self.assertEqual(other.first(), told_with(some.first(), names))
            self.assertEqual(rings_of(other).first(), told_with(rings_of(some).first(), names))
            self.assertEqual(pieces(other, 3), told_with(pieces(some, 3), names))
            self.assertEqual(least_amounts(other), [
                {names[name]: many for name, many in amounts.items()} for amounts in least_amounts(some)
            ])
            weights = {name: rnd.randint(1, 9) for name in sheet}
            self.assertEqual(spectrum(some, weights), spectrum(other, {names[name]: weights[name] for name in sheet}))
            cut = tuple(sheet.joints()[:1])
            other_cut = tuple(kinds[joint] for joint in cut)
            self.assertEqual(len(fragments(some, cut).table()[0]), len(fragments(other, other_cut).table()[0]))
            for many in range(1, 5):
                self.assertEqual(count_rings(rings_of(some), many), count_rings(rings_of(other), many))
            self.assertEqual(type(known_from(some)), type(known_from(other)))
            one, two = told_twice(sheet, recipe), told_twice(other_sheet, other_recipe)
            self.assertEqual(one, two)
            self.assertEqual(misfit(other_sheet, other_recipe), None)


class Nets(unittest.TestCase):
    def test_outdone_states_change_nothing(self):
        # Where sets of states are many, states that others outdo are left out of them.
        kept = nets.MOST_PLAIN
        try:
            for number in (0, kept):
                nets.MOST_PLAIN = number
                found = [some.table() for _, _, some, _, _ in random_families(seeded(307), 120)]
                found.extend(fam(told).table() for told in ('(p | r)* p (p | r){3} | p+', '(p* r p*)*', 'p | p p | p+'))
                if number == 0:
                    pruned = found
            self.assertEqual(pruned, found)
        finally:
            nets.MOST_PLAIN = kept

    def test_outdoers(self):
        net = Net()
        for is_end in (False, True, True, False):
            net.new_state(is_end)
        for state, sign, other in ((0, 'p', 1), (0, 'p', 2), (1, 'p', 1), (2, 'p', 2), (2, 'r', 3), (3, 'p', 3)):
            net.draw(state, sign, other)
        net.starts.append(0)
        # State 2 does what state 1 does, and more.
        self.assertEqual(outdoers(net)[1], 1 << 2)
        self.assertEqual(outdoers(net)[2], 0)
        self.assertEqual(least_of(net).listed(), ([(0, 'p', 1), (1, 'p', 1)], [1]))

    def test_words_of_random_nets(self):
        rnd = seeded(308)
        for _ in range(150):
            net = Net()
            many = rnd.randint(1, 6)
            for _ in range(many):
                net.new_state(rnd.random() < 0.3)
            net.starts.extend(rnd.sample(range(many), rnd.randint(1, many)))
            for _ in range(rnd.randint(0, 12)):
                net.draw(rnd.randrange(many), (rnd.choice('pr'), 0), rnd.randrange(many))
            table = least_of(net).listed()
            check_least(self, table)
            for length in range(5):
                for word in itertools.product([('p', 0), ('r', 0)], repeat=length):
                    now = set(net.starts)
                    for sign in word:
                        now = {other for state in now for other in net.moves[state].get(sign, [])}
                    self.assertIs(walk(table, word), any(net.finals[state] for state in now))

    def test_walks(self):
        self.assertEqual(len(Walks(PR, ('times', ('block', 'p', 0), 3, 5)).places), 5)
        self.assertEqual(row('~x y'), [('x', 1), ('y', 0)])


def turn(sheet, word):
    return [(name, way if sheet.ends(name)[0] == sheet.ends(name)[1] else 1 - way) for name, way in word[::-1]]
