import unittest

from endsmeet.errors import BadBlock
from endsmeet.gaps import Gaps, gaps
from endsmeet.runs import longest_run
from endsmeet.sheets import Sheet
from tests.family_support import MIXED, PR, fam, random_families
from tests.recipe_support import placed_blocks
from tests.support import seeded
from tests.test_runs import BAD_NAMES

PQR = Sheet({'k': 'k'}, {'p': ('k', 'k'), 'q': ('k', 'k'), 'r': ('k', 'k')})


def plain_gaps(word, names, others):
    found, last = [], None
    for at, (name, _) in enumerate(word):
        if name in names or name in others:
            if last is not None:
                before = word[last][0]
                if before in names and name in others or before in others and name in names:
                    found.append(at - last - 1)
            last = at
    return found


class FindGaps(unittest.TestCase):
    def ask(self, told, names, others, sheet=PQR):
        some = fam(told, sheet)
        found = gaps(some, names, others)
        self.assertEqual(gaps(some, others, names), found)
        return None if found is None else (found.least, found.greatest)

    def test_ordinary(self):
        self.assertEqual(self.ask('p r* p | p r', ('p',), ('p',)), (0, None))
        self.assertEqual(self.ask('p r{2..5} p', ('p',), ('p',)), (2, 5))
        self.assertEqual(self.ask('p r{2} q{3} p', ('p',), ('q',)), (0, 2))
        self.assertEqual(self.ask('p r{2} q r{4} p', ('p',), ('q',)), (2, 4))
        self.assertEqual(self.ask('p r{2} p r{9} q', ('p',), ('q',)), (9, 9))
        self.assertEqual(self.ask('p q', ('p',), ('q',)), (0, 0))
        self.assertEqual(self.ask('(p q r)+', ('p',), ('p',)), (2, 2))
        self.assertEqual(self.ask('(p q r)+', ('p',), ('q',)), (0, 1))
        self.assertEqual(self.ask('(p q r)+', ('p', 'q'), ('q',)), (0, 1))
        self.assertEqual(self.ask('(p q r)+', ('p', 'q'), ('p', 'q')), (0, 1))

    def test_no_gap(self):
        for told, names, others in (
            ('p r', ('p',), ('p',)), ('p+', ('p',), ('r',)), ('r+', ('p',), ('q',)), ('p r* | r* q', ('p',), ('q',)),
            ('p', ('p',), ('p',)), ('p r{5}', ('p',), ('q',)),
        ):
            self.assertEqual(self.ask(told, names, others), None)
        self.assertEqual(gaps(fam('p').both(fam('r')), ('p',), ('p',)), None)

    def test_no_greatest_gap(self):
        self.assertEqual(self.ask('p r+ q', ('p',), ('q',)), (1, None))
        self.assertEqual(self.ask('p (r r)* q', ('p',), ('q',)), (0, None))
        # Loops that do not lie between such blocks make no gap long.
        self.assertEqual(self.ask('r* p r{3} q r*', ('p',), ('q',)), (3, 3))
        self.assertEqual(self.ask('p r{3} q | p r+', ('p',), ('q',)), (3, 3))
        self.assertEqual(self.ask('p r{3} (q | p+ r+)', ('p',), ('q',)), (3, 3))
        self.assertEqual(self.ask('r+ q r p', ('p',), ('q',)), (1, 1))

    def test_both_ways(self):
        self.assertEqual(self.ask('q r{4} p', ('p',), ('q',)), (4, 4))
        sheet = Sheet({'a': 'b', 'b': 'a'}, {'x': ('b', 'a'), 'y': ('b', 'b'), 'z': ('a', 'a')})
        self.assertEqual(self.ask('z x{2..} y', ('y',), ('z',), sheet), (2, None))
        self.assertEqual(self.ask('z y (~x){0..3} z y', ('y',), ('z',), sheet), (0, 3))

    def test_runs_and_gaps_hang_together(self):
        for told in ('p r{2..5} p', '(p r{1..3})+ p', 'p{2} r{7} p', 'p r{3} p r{4} p'):
            found = gaps(fam(told), ('p',), ('p',))
            self.assertEqual(found.greatest, longest_run(fam(told), ('r',)).most)

    def test_large(self):
        circle = fam('((p{20}){2})+').both(fam('((p{7}){7})+'))
        self.assertEqual(gaps(circle, ('p',), ('p',)), Gaps(0, 0))
        self.assertEqual(self.ask('p (r{20}){9} p', ('p',), ('p',)), (180, 180))

    def test_held_against_plain_listing(self):
        rnd = seeded(220)
        several = 0
        for sheet, recipe, some, most, words in random_families(rnd, 300, 4):
            linear = sorted({name for name, _ in placed_blocks(sheet)})
            names, others = [tuple(sorted(rnd.sample(linear, rnd.randint(1, len(linear))))) for _ in range(2)]
            listed = [gap for word in words for gap in plain_gaps(word, names, others)]
            found = gaps(some, names, others)
            self.assertEqual(gaps(some, others, names), found)
            if listed:
                self.assertLessEqual(found.least, min(listed))
                self.assertTrue(found.greatest is None or found.greatest >= max(listed))
                several += 1
            states = 1 + max([0] + [other for _, _, other in some.table()[0]])
            if not some.is_endless() and states <= most + 1:
                self.assertEqual(found, Gaps(min(listed), max(listed)) if listed else None)
            elif found is not None and found.greatest is None:
                self.assertTrue(some.is_endless())
        self.assertGreater(several, 50)


class Evidence(unittest.TestCase):
    def test_equal(self):
        one = gaps(fam('p r p'), ('p',), ('p',))
        self.assertEqual(one, Gaps(1, 1))
        for unlike in (Gaps(0, 1), Gaps(1, None), Gaps(1, 2), None, (1, 1)):
            self.assertNotEqual(one, unlike)
        one.greatest = None
        self.assertEqual(one, Gaps(1, None))


class Arguments(unittest.TestCase):
    def test_bad_names(self):
        some = fam('x', MIXED)
        for bad in BAD_NAMES:
            with self.assertRaises(BadBlock, msg=bad):
                gaps(some, bad, ('x',))
            with self.assertRaises(BadBlock, msg=bad):
                gaps(some, ('x',), bad)
        self.assertEqual(gaps(fam('p'), ('p',), ('r',)), None)
        self.assertEqual(PR.names(), ['p', 'r'])
