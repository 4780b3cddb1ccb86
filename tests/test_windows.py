import unittest

from endsmeet.errors import BadNumber, TooLarge
from endsmeet.sheets import Sheet
from endsmeet.windows import Known, Unknown, known_from, pieces
from tests.family_support import BAD_FOR_INT, MIXED, PR, SHEET, fam, random_families, row
from tests.recipe_support import all_chains, placed_blocks
from tests.support import seeded

LEFT, RIGHT = ('', 0), ('', 1)


def pieces_of(chain, many):
    """The pieces of a chain with so many signs."""
    signs = [LEFT] + list(chain) + [RIGHT]
    return [signs[at:at + many] for at in range(max(len(signs) - many, 0) + 1)]


def many_blocks(many):
    """A sheet with so many blocks that fit each other, and their names."""
    names = sorted(one + other for one in 'abcdefghijklmnop' for other in 'abcdefghijklmnop')[:many]
    return Sheet({'k': 'k'}, {name: ('k', 'k') for name in names}), names


def either_of(sheet, told):
    """The family of the chains of several recipes, which would be too large together."""
    some = fam(told[0], sheet)
    for at in range(1, len(told), 20):
        some = some.either(fam(' | '.join(told[at:at + 20]), sheet))
    return some


def lets_in(some, chain, many):
    """Whether a chain is let in by the pieces of a family, if these can be listed."""
    told = pieces(some, many)
    return all(piece in told for piece in pieces_of(chain, many))


class Pieces(unittest.TestCase):
    def test_ordinary(self):
        self.assertEqual(pieces(fam('p{2}'), 2), [[LEFT, ('p', 0)], [('p', 0), RIGHT], [('p', 0), ('p', 0)]])
        self.assertEqual(pieces(fam('p{2}'), 3), [[LEFT, ('p', 0), ('p', 0)], [('p', 0), ('p', 0), RIGHT]])
        self.assertEqual(pieces(fam('p{2}'), 4), [[LEFT, ('p', 0), ('p', 0), RIGHT]])
        for many in (5, 12):
            self.assertEqual(pieces(fam('p{2}'), many), [[LEFT, ('p', 0), ('p', 0), RIGHT]])
        self.assertEqual(pieces(fam('p'), 2), [[LEFT, ('p', 0)], [('p', 0), RIGHT]])
        self.assertEqual(pieces(fam('x', SHEET), 2), [[LEFT, ('x', 0)], [LEFT, ('x', 1)], [('x', 0), RIGHT], [('x', 1), RIGHT]])

    def test_ordered_as_lists_whatever_their_lengths(self):
        self.assertEqual(pieces(fam('p | p p r'), 4), [
            [LEFT, ('p', 0), RIGHT], [LEFT, ('p', 0), ('p', 0), ('r', 0)], [LEFT, ('r', 0), ('p', 0), ('p', 0)],
            [('p', 0), ('p', 0), ('r', 0), RIGHT], [('r', 0), ('p', 0), ('p', 0), RIGHT],
        ])
        self.assertEqual(pieces(fam('(p | r){1..2}'), 12), sorted(pieces(fam('(p | r){1..2}'), 12)))

    def test_no_chain(self):
        none = fam('p').both(fam('r'))
        for many in (2, 3, 12):
            self.assertEqual(pieces(none, many), [])

    def test_held_against_plain_listing(self):
        compared = 0
        for sheet, recipe, some, most, words in random_families(seeded(250), 200):
            states = 1 + max([0] + [other for _, _, other in some.table()[0]])
            for many in range(2, 8):
                plain = {tuple(piece) for word in words for piece in pieces_of(word, many)}
                found = pieces(some, many)
                self.assertEqual(found, sorted(found))
                self.assertEqual(len(found), len(set(map(tuple, found))))
                self.assertLessEqual(plain, set(map(tuple, found)))
                if not some.is_endless() and states <= most + 1:
                    self.assertEqual(set(map(tuple, found)), plain)
                    compared += len(plain) > 0
        self.assertGreater(compared, 200)

    def test_500_rows_and_more(self):
        # Rows with no mark, with either one, and with both; and the chains that are shorter.
        self.assertEqual(len(pieces(fam('(p | r)+'), 7)), (128 + 2 * 64 + 32) + (2 + 4 + 8 + 16))
        with self.assertRaises(TooLarge):
            pieces(fam('(p | r)+'), 8)
        # Rows of fewer signs than asked for count, too.
        self.assertEqual(len(pieces(fam('(p | r){7}'), 12)), 128)
        self.assertEqual(len(pieces(fam('(p | r){8}'), 7)), 128 + 2 * 64)
        for many in range(8, 13):
            with self.assertRaises(TooLarge):
                pieces(fam('(p | r){8}'), many)

    def test_rows_just_at_the_bound(self):
        sheet, names = many_blocks(249)
        some = either_of(sheet, names)
        self.assertEqual(len(pieces(some, 2)), 498)
        some = some.either(fam(' | '.join(f'{name} {name}' for name in names[:2]), sheet))
        self.assertEqual(len(pieces(some, 2)), 500)
        self.assertEqual(len(pieces(some, 3)), 249 + 4)
        some = some.either(fam(f'{names[5]} {names[5]}', sheet))
        for many in (2, 3, 12):
            with self.assertRaises(TooLarge):
                pieces(some, many)

    def test_pieces_just_at_the_bound(self):
        sheet, names = many_blocks(51)
        some = either_of(sheet, [name + '{1..10}' for name in names[:50]])
        self.assertEqual(len(pieces(some, 12)), 500)
        more = some.either(fam(names[50], sheet))
        with self.assertRaises(TooLarge):
            pieces(more, 12)
        self.assertEqual(len(pieces(more, 5)), 2 * 50 + 1 + 4 * 50)

    def test_errors(self):
        for many in BAD_FOR_INT + (-1, 0, 1, 13, 10 ** 30):
            with self.assertRaises(BadNumber):
                pieces(fam('(p | r)+'), many)


class KnownFrom(unittest.TestCase):
    def ask(self, told, sheet=PR):
        some = fam(told, sheet)
        found = known_from(some)
        self.assertIs(found.shows(some), True)
        return found

    def test_two_signs(self):
        for told in ('p', '(p | r)+', 'p+', 'p+ | r+', '(p r)+ | p (r p)* | r (p r)*', 'r (p r)*', 'p | p (p | r)* p'):
            self.assertEqual(self.ask(told), Known(2, None), told)
        self.assertEqual(self.ask('x+', SHEET), Known(2, None))
        self.assertEqual(known_from(fam('p').both(fam('r'))), Known(2, None))
        self.assertIs(Known(2, None).shows(fam('p').both(fam('r'))), True)

    def test_more_signs(self):
        for many in range(2, 21):
            found = self.ask('p{%d}' % many)
            self.assertEqual(found.signs, many + 1)
            self.assertEqual(found.other, row('p ' * len(found.other)))
            self.assertIn(len(found.other), [many - 1] + list(range(many + 1, 3 * many)))
        found = self.ask('(p{20}){9}')
        self.assertEqual(found.signs, 181)
        self.assertEqual(self.ask('p{3..}').signs, 4)
        self.assertEqual(self.ask('p{1..7}').signs, 8)
        self.assertEqual(self.ask('r p{5} r').signs, 6)
        self.assertEqual(self.ask('z y z y', SHEET).signs, 5)

    def test_unknown(self):
        for told in ('(p p)+', 'r p* r p* r', '(p{3})+ | r', 'p* r p*', '(p | r)* p (p | r)* r p p | r p r'):
            found = self.ask(told)
            self.assertIsInstance(found, Unknown, told)
            some = fam(told)
            for times in range(1, 9):
                self.assertIs(some.has(found.front + found.loop * times + found.back), False)
            for many in range(2, 6):
                self.assertTrue(lets_in(some, found.front + found.loop * (many + 1) + found.back, many))
        # The loop of the shortest circle exchanges two states.
        found = self.ask('(p p)+')
        self.assertEqual(len(found.loop), 2)
        self.assertIsInstance(self.ask('(z y)+ | (z y)* z x x y (z y)*', SHEET), Unknown)

    def test_large(self):
        circle = fam('((p{20}){2})+').both(fam('((p{3}){3})+'))
        found = known_from(circle)
        self.assertIsInstance(found, Unknown)
        self.assertIs(found.shows(circle), True)

    def test_held_against_plain_listing(self):
        seen = {}
        for sheet, recipe, some, most, words in random_families(seeded(251), 250):
            found = known_from(some)
            self.assertIs(found.shows(some), True)
            if isinstance(found, Unknown):
                seen[Unknown] = seen.get(Unknown, 0) + 1
                for times in range(1, 5):
                    self.assertIs(some.has(found.front + found.loop * times + found.back), False)
                for many in (2, 3, 4):
                    self.assertTrue(lets_in(some, found.front + found.loop * (many + 1) + found.back, many))
                self.assertIs(Known(3, found.front + found.loop + found.back).shows(some), False)
                continue
            seen[found.signs] = seen.get(found.signs, 0) + 1
            for many in (2, 3, 4, 5):
                told = [tuple(piece) for piece in pieces(some, many)]
                for chain in all_chains(sheet, 4 if len(placed_blocks(sheet)) < 4 else 3):
                    is_let_in = all(tuple(piece) in told for piece in pieces_of(chain, many))
                    if many >= found.signs:
                        self.assertIs(is_let_in, some.has(chain))
                    self.assertTrue(is_let_in or not some.has(chain))
                    if 2 < found.signs == many + 1:
                        shown = Known(found.signs, chain).shows(some)
                        self.assertIs(shown, is_let_in and not some.has(chain))
            if 2 < found.signs <= 8:
                self.assertTrue(lets_in(some, found.other, found.signs - 1))
                self.assertIs(some.has(found.other), False)
        self.assertGreater(seen[Unknown], 5)
        self.assertGreater(seen[2], 20)
        self.assertGreater(sum(seen[signs] for signs in seen if signs not in (2, Unknown)), 20)


class Evidence(unittest.TestCase):
    def test_known_altered(self):
        some = fam('p{3}')
        for signs, other, shown in (
            (4, row('p ' * 5), True), (4, row('p ' * 4), True), (4, row('p ' * 9), True), (4, row('p ' * 3), False),
            (4, row('p ' * 2), True), (4, row('p'), False), (3, row('p ' * 5), False), (5, row('p ' * 5), False),
            (4, None, False), (4, [], False), (2, None, False), (4, row('r ' * 5), False), (4, row('p p r p p'), False),
            (4, [('what', 0)] * 4, False), (4, [('p', 1)] * 4, False), (-4, None, False), (10 ** 30, None, False),
            (True, None, False), (4, [LEFT] + row('p p') + [RIGHT], False),
        ):
            self.assertIs(Known(signs, other).shows(some), shown and lets_in(some, other, 3), (signs, other))
        self.assertIs(Known(2, None).shows(fam('p+')), True)
        for signs, other in ((2, []), (2, row('r')), (2, row('p')), (1, None), (3, None), (3, row('r'))):
            self.assertIs(Known(signs, other).shows(fam('p+')), False)
        found = known_from(some)
        found.signs += 1
        self.assertIs(found.shows(some), False)
        self.assertIs(known_from(fam('(p p)+')).shows(some), False)
        self.assertIs(known_from(some).shows(fam('(p p)+')), False)

    def test_unknown_altered(self):
        some = fam('(p p)+')
        for front, loop, back, shown in (
            (row('p'), row('p p'), [], True), ([], row('p p'), row('p'), True), (row('p'), row('p p p p'), row('p p'), True),
            (row('p'), row('p'), [], False), (row('p'), row('p p'), row('p'), False), ([], row('p p'), [], False),
            (row('p'), [], [], False), ([], [], [], False), (row('r'), row('p p'), [], False),
            (row('p'), row('p p'), row('r'), False), (row('p'), row('p r'), [], False), (row('r'), row('r r'), [], False),
            ([('what', 0)], row('p p'), [], False), (row('p'), [('p', 1)] * 2, [], False), (row('p'), [LEFT], [], False),
        ):
            self.assertIs(Unknown(front, loop, back).shows(some), shown, (front, loop, back))
        # Chains that are not let in, as their fronts or backs are not pieces of the family.
        some = fam('r p* r p* r')
        for front, loop, back, shown in (
            (row('r'), row('p'), row('r'), True), (row('r r'), row('p'), row('r r'), True), ([], row('p'), row('r'), False),
            (row('r'), row('p'), [], False), (row('r'), row('p p'), row('r'), True), (row('r r r'), row('p'), row('r'), False),
            (row('r p r'), row('p'), row('p r'), False), (row('r p r'), row('p'), row('r p r'), True),
            (row('r'), row('p r'), row('r'), False),
        ):
            self.assertIs(Unknown(front, loop, back).shows(some), shown, (front, loop, back))
        # No chain of the sheet, and chains that do not fit where the loop is gone through again.
        some = fam('z x* y | z y', SHEET)
        self.assertIs(Unknown(row('z'), row('y'), []).shows(some), False)
        self.assertIs(Unknown([], row('x'), []).shows(some), False)
        found = known_from(fam('(p p)+'))
        found.loop = found.loop + row('p')
        self.assertIs(found.shows(fam('(p p)+')), False)
        self.assertIs(Unknown(row('p'), row('p p'), []).shows(fam('p+')), False)
        self.assertIs(Unknown(row('p'), row('p p'), []).shows(fam('p').both(fam('r'))), False)

    def test_equal_and_copied(self):
        chain = row('p r')
        one, other = Known(3, tuple(chain)), Known(3, chain)
        chain.clear()
        self.assertEqual(one, other)
        self.assertIsInstance(one.other, list)
        for unlike in (Known(4, row('p r')), Known(3, row('p')), Known(3, None), None, Unknown([], [], [])):
            self.assertNotEqual(one, unlike)
        parts = [row('r'), row('p'), row('r r')]
        one, other = Unknown(*map(tuple, parts)), Unknown(*parts)
        for part in parts:
            part.clear()
        self.assertEqual(one, other)
        self.assertEqual([one.front, one.loop, one.back], [row('r'), row('p'), row('r r')])
        for unlike in (
            Unknown([], row('p'), row('r r')), Unknown(row('r'), [], row('r r')), Unknown(row('r'), row('p'), []),
            Known(2, None), None,
        ):
            self.assertNotEqual(one, unlike)

    def test_known_from_longer_pieces_too(self):
        # Longer chains than the pieces: the family itself is finite.
        for told in ('p{2} r', '(p | r){2}', 'x y | z y z', 'own mix'):
            sheet = MIXED if told[0] in 'xo' else PR
            some = fam(told, sheet)
            self.assertLessEqual(known_from(some).signs, 5)
            for chain in all_chains(sheet, 4):
                for many in (5, 6, 7):
                    self.assertIs(lets_in(some, chain, many), some.has(chain))
