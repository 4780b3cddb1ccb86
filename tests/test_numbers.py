import unittest

from endsmeet.errors import BadNumber, BadSheet, TooLarge
from endsmeet.numbers import count_chains, first_unlike
from endsmeet.placing import chain_form
from tests.family_support import BAD_FOR_INT, MIXED, PR, SHEET, fam, random_families
from tests.support import seeded


def states(one):
    return 1 + max([0] + [other for _, _, other in one.table()[0]])


class CountChains(unittest.TestCase):
    def test_ordinary(self):
        whole = fam('(p | r)+')
        # Of 2 ** many words those that are their own turnings count once, the others twice.
        for many in list(range(1, 40)) + [2000]:
            self.assertEqual(count_chains(whole, many), (2 ** many + 2 ** ((many + 1) // 2)) // 2)
        self.assertEqual(count_chains(whole, 0), 0)
        self.assertEqual(count_chains(fam('p+'), 2000), 1)
        self.assertEqual([count_chains(fam('p r | r p | p p'), many) for many in range(4)], [0, 0, 2, 0])

    def test_no_chain_and_finitely_many(self):
        none = fam('p').both(fam('r'))
        self.assertEqual([count_chains(none, many) for many in (0, 1, 2, 2000)], [0] * 4)
        self.assertEqual([count_chains(fam('(p | r){3}'), many) for many in range(6)], [0, 0, 0, 6, 0, 0])

    def test_two_ways(self):
        # No word of these is its own turning.
        self.assertEqual([count_chains(fam('x+', SHEET), many) for many in (0, 1, 2, 1999)], [0, 1, 1, 1])
        self.assertEqual(count_chains(fam('z (y | x+ y) | x*', SHEET), 2), 2)
        self.assertEqual([count_chains(fam('(z y)* z', SHEET), many) for many in range(5)], [0, 1, 0, 1, 0])

    def test_held_against_plain_listing(self):
        counted = 0
        for sheet, recipe, found, most, words in random_families(seeded(180), 300):
            if states(found) > 30:
                continue
            for many in range(most + 1):
                forms = {tuple(chain_form(sheet, word)) for word in words if len(word) == many}
                self.assertEqual(count_chains(found, many), len(forms))
                counted += len(forms)
        self.assertGreater(counted, 300)

    def test_bounds(self):
        self.assertEqual(states(fam('p{20} p{9}')), 30)
        self.assertEqual(count_chains(fam('p{20} p{9}'), 29), 1)
        with self.assertRaises(TooLarge):
            count_chains(fam('p{20} p{10}'), 5)
        for many in BAD_FOR_INT + (-1, 2001, 10 ** 30):
            with self.assertRaises(BadNumber):
                count_chains(fam('p+'), many)
            with self.assertRaises(BadNumber):
                count_chains(fam('p{20} p{20}'), many)


class FirstUnlike(unittest.TestCase):
    def test_ordinary(self):
        self.assertEqual(first_unlike(fam('(p | r)+'), fam('(p | r) (p | r)*')), None)
        self.assertEqual(first_unlike(fam('p+'), fam('r+')), None)
        self.assertEqual(first_unlike(fam('p+'), fam('p{1..5}')), 6)
        self.assertEqual(first_unlike(fam('p'), fam('p p')), 1)
        self.assertEqual(first_unlike(fam('p{10}'), fam('p{11}')), 10)
        self.assertEqual(first_unlike(fam('p'), fam('p').both(fam('r'))), 1)
        self.assertEqual(first_unlike(fam('p').both(fam('r')), fam('r r').both(fam('p'))), None)

    def test_unlike_for_turnings_alone(self):
        # As many words of each length, but other numbers of chains; and as many chains, but other numbers of words.
        self.assertEqual(first_unlike(fam('p r | r p'), fam('p p | r r')), 2)
        self.assertEqual(first_unlike(fam('p r'), fam('p p')), None)
        self.assertEqual(first_unlike(fam('x+', SHEET), fam('z (y z)* | (z y)+', SHEET)), None)

    def test_unlike_in_one_long_chain_alone(self):
        one = fam('(p{11})+')
        self.assertEqual(first_unlike(one, fam('p{11}')), 22)
        self.assertEqual(first_unlike(fam('(p{10})+ | p'), fam('p | p{10}')), 20)
        self.assertEqual(first_unlike(fam('(p{10})+'), fam('(p{11})+')), 10)
        self.assertEqual(first_unlike(fam('(p{2})+ | (p{3})+'), fam('(p{2})+ | p{3} | p{9}')), 15)
        two = fam('p+')
        self.assertEqual(first_unlike(two, two.without(fam('p{10}'))), 10)

    def test_held_against_plain_counting(self):
        rnd = seeded(181)
        some = [found for _, _, found, _, _ in random_families(rnd, 60, 2, 4) if states(found) <= 12]
        seen = {True: 0, False: 0}
        for one in some:
            for other in some:
                if one.sheet == other.sheet or rnd.random() < 0.1:
                    if one.sheet != other.sheet:
                        with self.assertRaises(BadSheet):
                            first_unlike(one, other)
                        continue
                    unlike = [many for many in range(140) if count_chains(one, many) != count_chains(other, many)]
                    self.assertEqual(first_unlike(one, other), unlike[0] if unlike else None)
                    seen[not unlike] += 1
        self.assertGreater(seen[True], 40)

    def test_many_pairs_of_one_sheet(self):
        told = ['p', 'p+', 'p r', '(p r)+', '(p | r){1..3}', 'p* r', 'p r* p', '(p p | r)+', 'r (p | r)*', '(p r | r r)+']
        for one in told:
            for other in told:
                counts = [[count_chains(fam(text), many) for many in range(120)] for text in (one, other)]
                unlike = [many for many in range(120) if counts[0][many] != counts[1][many]]
                self.assertEqual(first_unlike(fam(one), fam(other)), unlike[0] if unlike else None)

    def test_errors_in_order(self):
        with self.assertRaises(BadSheet):
            first_unlike(fam('x', SHEET), fam('x', MIXED))
        with self.assertRaises(BadSheet):
            first_unlike(fam('x{20}', SHEET), fam('x', MIXED))
        self.assertEqual(states(fam('p{11}')), 12)
        self.assertEqual(first_unlike(fam('p{11}'), fam('p{11}')), None)
        for one, other in (('p{12}', 'p'), ('p', 'p{12}'), ('p{12}', 'p{12}')):
            with self.assertRaises(TooLarge):
                first_unlike(fam(one), fam(other))
        self.assertEqual(PR, fam('p').sheet)
