import unittest

from endsmeet.errors import BadBlock
from endsmeet.runs import Longest, Unending, longest_run
from tests.family_support import MIXED, PR, SHEET, fam, random_families, row
from tests.recipe_support import placed_blocks
from tests.support import seeded

BAD_NAMES = (
    None, [], (), ['x'], 'x', 5, {'x': 1}, ('what',), ('cap',), ('tee',), ('x', 'cap'), ('cap', 'x'), ('y', 'x'), ('x', 'x'),
    (5,), (None,), (('x', 0),), (['x'],), ('x', 'y', 'what'), ('',), ('x', 'z', 'y'),
)


def longest(word, names):
    told = ''.join('x' if name in names else ' ' for name, _ in word)
    return max(len(part) for part in told.split(' '))


class Runs(unittest.TestCase):
    def ask(self, told, names, sheet=PR):
        some = fam(told, sheet)
        found = longest_run(some, names)
        self.assertIs(found.shows(some, names), True)
        return found

    def test_ordinary(self):
        found = self.ask('p{2} r p{3}', ('p',))
        self.assertEqual(found.most, 3)
        self.assertIn(found.chain, (row('p p r p p p'), row('p p p r p p')))
        self.assertEqual(self.ask('p{2} r p{3}', ('r',)).most, 1)
        self.assertEqual(self.ask('p{2} r p{3}', ('p', 'r')).most, 6)
        self.assertEqual(self.ask('(p{1..3} r)* r', ('p',)).most, 3)
        self.assertEqual(self.ask('(p{20} r{0..4}){5} r', ('p',)).most, 100)

    def test_none_of_the_names(self):
        found = self.ask('r{3..}', ('p',))
        self.assertEqual([found.most, found.chain], [0, row('r r r')])
        some = fam('r{3..}')
        self.assertIs(Longest(0, row('r ' * 40)).shows(some, ('p',)), True)
        self.assertIs(Longest(0, row('r ' * 2)).shows(some, ('p',)), False)
        self.assertIs(Longest(0, None).shows(some, ('p',)), False)

    def test_no_chain(self):
        none = fam('p').both(fam('r'))
        found = longest_run(none, ('p', 'r'))
        self.assertEqual(found, Longest(0, None))
        self.assertIs(found.shows(none, ('p', 'r')), True)
        for other in (Longest(1, None), Longest(0, row('p')), Longest(0, []), Unending([], row('p'), [])):
            self.assertIs(other.shows(none, ('p', 'r')), False)

    def test_unending(self):
        found = self.ask('r p* r', ('p',))
        self.assertIsInstance(found, Unending)
        self.assertEqual([found.front, found.loop, found.back], [row('r'), row('p'), row('r')])
        found = self.ask('(p r p)+', ('p', 'r'))
        self.assertIsInstance(found, Unending)
        self.assertEqual(self.ask('(p r p)+', ('p',)).most, 2)
        found = self.ask('z x+ y | z y', ('x',), SHEET)
        self.assertIn(found.loop, (row('x'), row('~x')))
        self.assertIsInstance(self.ask('p+', ('p',)), Unending)

    def test_large(self):
        circle = fam('((p{20}){2})+').both(fam('((p{7}){7})+'))
        found = longest_run(circle, ('p',))
        self.assertEqual(len(found.loop), 1960)
        self.assertIs(found.shows(circle, ('p',)), True)
        line = fam('(p{20}){10}')
        self.assertEqual(longest_run(line, ('p',)), Longest(200, row('p ' * 200)))
        self.assertEqual(self.ask('(p | r){100}'.replace('{100}', '{20}'), ('r',)).most, 20)

    def test_held_against_plain_listing(self):
        rnd = seeded(210)
        seen = {Longest: 0, Unending: 0}
        for sheet, recipe, some, most, words in random_families(rnd, 250):
            linear = sorted({name for name, _ in placed_blocks(sheet)})
            names = tuple(sorted(rnd.sample(linear, rnd.randint(1, len(linear)))))
            found = longest_run(some, names)
            self.assertIs(found.shows(some, names), True)
            seen[type(found)] += 1
            listed = max((longest(word, names) for word in words), default=0)
            if isinstance(found, Unending):
                for times in range(5):
                    self.assertTrue(some.has(found.front + found.loop * times + found.back))
                self.assertLessEqual({name for name, _ in found.loop}, set(names))
                self.assertIs(Longest(listed, None).shows(some, names), False)
                continue
            self.assertGreaterEqual(found.most, listed)
            if found.chain is None:
                self.assertFalse(some)
            else:
                self.assertTrue(some.has(found.chain))
                self.assertEqual(longest(found.chain, names), found.most)
            for word in words:
                told = list(word)
                self.assertIs(Longest(found.most, told).shows(some, names), longest(word, names) == found.most)
                self.assertIs(Longest(found.most + 1, told).shows(some, names), False)
                self.assertIs(Longest(found.most - 1, told).shows(some, names), False)
        self.assertGreater(min(seen.values()), 20)


class Evidence(unittest.TestCase):
    def test_longest_altered(self):
        some = fam('p{2} r p{3} | r p')
        self.assertIs(Longest(3, row('p p r p p p')).shows(some, ('p',)), True)
        for most, chain in (
            (2, row('p p r p p p')), (4, row('p p r p p p')), (3, None), (3, []), (3, row('r p')), (3, row('p p p')),
            (3, row('p p r p p p') + [('what', 0)]), (3, [('p', 1)]), (3, [('x', 0), None]), (-3, row('p p r p p p')),
            (10 ** 30, row('p p r p p p')), (True, row('r p')), (0, None),
        ):
            self.assertIs(Longest(most, chain).shows(some, ('p',)), False, (most, chain))
        found = longest_run(some, ('p',))
        found.chain = found.chain + row('p')
        self.assertIs(found.shows(some, ('p',)), False)
        self.assertIs(Unending([], row('p'), []).shows(some, ('p',)), False)

    def test_unending_altered(self):
        some = fam('r p* r')
        for front, loop, back, shown in (
            (row('r'), row('p'), row('r'), True), (row('r p'), row('p p'), row('r'), True),
            (row('r'), row('p'), row('p p r'), True), (row('r'), [], row('r'), False), (row('r'), row('r'), [], False),
            ([], row('p'), row('r'), False), (row('r'), row('p'), [], False), (row('r'), row('p r'), row('r'), False),
            (row('r'), [('what', 0)], row('r'), False), ([('what', 0)], row('p'), row('r'), False),
            (row('r'), row('p'), [('p', 1)], False), (row('p'), row('p'), row('r'), False), ([], [], [], False),
        ):
            self.assertIs(Unending(front, loop, back).shows(some, ('p',)), shown, (front, loop, back))
        for bad in ([['p', 0]], [None], [('p',)], ['p'], [5], [('p', 0, 0)], [(['p'], 0)]):
            for parts in ((bad, row('p'), row('r')), (row('r'), bad, row('r')), (row('r'), row('p'), bad)):
                self.assertIs(Unending(*parts).shows(some, ('p',)), False)
        # The loop once or twice is not enough.
        some = fam('r (p{3})* r | r p p r')
        self.assertIs(Unending(row('r'), row('p'), row('r')).shows(some, ('p',)), False)
        self.assertIs(Unending(row('r'), row('p p p'), row('r')).shows(some, ('p',)), True)
        some = fam('p r | p{2} r | p{3..} r r')
        self.assertIs(Unending(row('p'), row('p'), row('r')).shows(some, ('p',)), False)
        # Never is asked for, too.
        some = fam('r p+ r')
        self.assertIs(Unending(row('r'), row('p'), row('r')).shows(some, ('p',)), False)
        self.assertIs(Unending(row('r p'), row('p'), row('r')).shows(some, ('p',)), True)
        some = fam('(p p)+')
        self.assertIs(Unending([], row('p p'), []).shows(some, ('p',)), False)
        self.assertIs(Unending([], row('p p'), row('p p')).shows(some, ('p',)), True)
        self.assertIs(Unending(row('p'), row('p p'), row('p')).shows(some, ('p',)), True)
        self.assertIs(Unending(row('p'), row('p p'), row('p')).shows(some, ('r',)), False)

    def test_equal_and_copied(self):
        chain = row('p r')
        one, other = Longest(1, tuple(chain)), Longest(1, chain)
        chain.clear()
        self.assertEqual(one, other)
        self.assertIsInstance(one.chain, list)
        for unlike in (Longest(2, row('p r')), Longest(1, row('p')), Longest(1, None), None, Unending([], [], [])):
            self.assertNotEqual(one, unlike)
        parts = [row('r'), row('p'), row('r r')]
        one, other = Unending(*map(tuple, parts)), Unending(*parts)
        for part in parts:
            part.clear()
        self.assertEqual(one, other)
        self.assertEqual([one.front, one.loop, one.back], [row('r'), row('p'), row('r r')])
        for unlike in (
            Unending([], row('p'), row('r r')), Unending(row('r'), [], row('r r')), Unending(row('r'), row('p'), []),
            Longest(0, None), None,
        ):
            self.assertNotEqual(one, unlike)


class Arguments(unittest.TestCase):
    def test_bad_names(self):
        some = fam('x', MIXED)
        for ask in (longest_run, Longest(0, None).shows, Unending([], [], []).shows):
            for bad in BAD_NAMES:
                with self.assertRaises(BadBlock, msg=bad):
                    ask(some, bad)
        self.assertEqual(longest_run(some, ('mix', 'own', 'x', 'y', 'z')).most, 1)
        self.assertEqual(longest_run(fam('x', SHEET), ('y', 'z')).most, 0)
