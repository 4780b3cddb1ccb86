import unittest

from endsmeet.desks import Desk
from endsmeet.errors import BadBlock, BadLinks, BadSheet, TooLarge
from endsmeet.pieces import Piece
from endsmeet.sheets import Sheet
from tests.support import ABC, parts, seeded

SHEET = Sheet(ABC, {'rod': ('a', 'b'), 'cup': ('b',), 'fork': ('a', 'a'), 'cap': ('c',), 'tee': ('c', 'a', 'c')})


def state(desk):
    return len(desk), desk.all_links(), desk.free(), desk.pieces()


def rebuilt(sheet, blocks, links):
    """A new desk with some copies and links."""
    desk = Desk(sheet)
    for name in blocks:
        desk.add(name)
    for (copy, end), (other, there) in links:
        desk.join(copy, end, other, there)
    return desk


class Desks(unittest.TestCase):
    def test_empty(self):
        desk = Desk(SHEET)
        self.assertEqual(state(desk), (0, [], [], []))

    def test_ordinary(self):
        desk = Desk(SHEET)
        self.assertEqual([desk.add(name) for name in ('rod', 'fork', 'cup')], [0, 1, 2])
        self.assertEqual(len(desk), 3)
        self.assertEqual(desk.free(), [(0, 0), (0, 1), (1, 0), (1, 1), (2, 0)])
        desk.join(2, 0, 1, 1)
        desk.join(0, 1, 0, 0)
        self.assertEqual(desk.all_links(), [((0, 0), (0, 1)), ((1, 1), (2, 0))])
        self.assertEqual(desk.free(), [(1, 0)])
        self.assertEqual(desk.pieces(), [
            Piece(['rod'], [((0, 0), (0, 1))]), Piece(['fork', 'cup'], [((0, 1), (1, 0))]),
        ])
        desk.part(0, 1)
        desk.part(1, 1)
        self.assertEqual(desk.all_links(), [])
        self.assertEqual(len(desk.pieces()), 3)
        desk.join(1, 0, 2, 0)
        self.assertEqual(desk.pieces()[1], Piece(['fork', 'cup'], [((0, 0), (1, 0))]))

    def test_own_partner(self):
        desk = Desk(SHEET)
        desk.add('tee')
        desk.add('tee')
        desk.join(0, 2, 0, 0)
        desk.join(1, 0, 1, 2)
        self.assertEqual(desk.all_links(), [((0, 0), (0, 2)), ((1, 0), (1, 2))])
        desk.part(0, 0)
        desk.part(1, 2)
        desk.join(1, 2, 0, 0)
        self.assertEqual(desk.pieces(), [Piece(['tee', 'tee'], [((0, 0), (1, 2))])])

    def test_bad_joins(self):
        desk = Desk(SHEET)
        for name in ('rod', 'rod', 'cap', 'cup'):
            desk.add(name)
        desk.join(0, 0, 1, 1)
        before = state(desk)
        for told in (
            (0, 1, 4, 0), (4, 0, 0, 1), (-1, 0, 0, 1), (0, 1, -1, 0), (0, 2, 1, 0), (1, 0, 0, 2), (0, -1, 1, 0),
            (0, 0, 3, 0), (3, 0, 0, 0), (1, 1, 1, 0), (0, 1, 0, 1), (2, 0, 2, 0), (0, 1, 3, 0), (0, 1, 2, 0),
            (1, 0, 2, 0), (None, 0, 0, 1), (0, None, 1, 0), ('1', 0, 0, 1), (True, 0, 0, 1), (0, True, 1, 0),
            (0, 1, 1, False), (0, 1, True, 0), ([0], 1, 1, 0), (0, 1, 1, {}), (0, 1, (1,), 0), (10 ** 30, 0, 1, 0),
        ):
            with self.assertRaises(BadLinks, msg=told):
                desk.join(*told)
        for told in (
            (0, 1), (1, 0), (2, 0), (4, 0), (-1, 0), (0, 2), (0, -1), (None, 0), (0, None), (False, 0), (0, False),
            ('0', 0), ([0], 0), (0, [0]), (0, (0,)),
        ):
            with self.assertRaises(BadLinks, msg=told):
                desk.part(*told)
        self.assertEqual(state(desk), before)
        desk.join(0, 1, 1, 0)
        self.assertEqual([len(piece) for piece in desk.pieces()], [2, 1, 1])

    def test_bad_blocks(self):
        desk = Desk(SHEET)
        for bad in ('bow', '', None, 3, ['rod'], ('rod',), True, 'a'):
            with self.assertRaises(BadBlock, msg=bad):
                desk.add(bad)
        self.assertEqual(len(desk), 0)

    def test_bad_sheets(self):
        for bad in (None, {}, 'sheet', 5, Desk(SHEET)):
            with self.assertRaises(BadSheet):
                Desk(bad)

    def test_pieces_too_large(self):
        desk = Desk(SHEET)
        for _ in range(201):
            desk.add('rod')
        for copy in range(199):
            desk.join(copy, 1, copy + 1, 0)
        self.assertEqual([len(piece) for piece in desk.pieces()], [200, 1])
        desk.join(199, 1, 200, 0)
        with self.assertRaises(TooLarge):
            desk.pieces()
        self.assertEqual(len(desk.all_links()), 200)
        desk.part(100, 0)
        self.assertEqual([len(piece) for piece in desk.pieces()], [100, 101])

    def test_new(self):
        desk = Desk(SHEET)
        desk.add('rod')
        desk.join(0, 0, 0, 1)
        desk.all_links().clear()
        desk.pieces().clear()
        self.assertEqual((len(desk.all_links()), len(desk.pieces())), (1, 1))
        desk.part(0, 0)
        desk.free().clear()
        self.assertEqual(len(desk.free()), 2)


class Trials(unittest.TestCase):
    def desk(self):
        desk = rebuilt(SHEET, ['rod', 'rod', 'cup'], [((0, 0), (0, 1))])
        return desk, state(desk)

    def change(self, desk):
        desk.part(0, 0)
        desk.join(0, 1, 1, 0)
        return desk.add('cap')

    def test_without_keep(self):
        desk, before = self.desk()
        self.assertEqual(desk.trial(self.change), 3)
        self.assertEqual(state(desk), before)
        # The next copy has the number that the trial gave and took back.
        self.assertEqual(desk.add('cap'), 3)

    def test_returns_what_the_function_returns(self):
        desk, _ = self.desk()
        told = [1, 2]
        self.assertIs(desk.trial(lambda given: told), told)
        self.assertIsNone(desk.trial(lambda given: None))
        self.assertTrue(desk.trial(lambda given: given is desk))
        self.assertEqual(desk.trial(len), 3)

    def test_keep(self):
        desk, before = self.desk()
        kept = []

        def work(given):
            self.change(given)
            given.keep()
            kept.append(state(given))
            given.add('tee')
            given.part(0, 1)
            return 7

        self.assertEqual(desk.trial(work), 7)
        self.assertEqual(state(desk), kept[0])
        self.assertNotEqual(state(desk), before)
        self.assertEqual(len(desk), 4)

    def test_last_keep_counts(self):
        desk, _ = self.desk()

        def work(given):
            given.add('cap')
            given.keep()
            given.add('cap')
            given.keep()
            given.add('cap')

        desk.trial(work)
        self.assertEqual(len(desk), 5)

    def test_keep_outside_of_trials(self):
        desk, before = self.desk()
        self.assertIsNone(desk.keep())
        desk.trial(self.change)
        self.assertEqual(state(desk), before)
        desk.trial(lambda given: given.keep())
        desk.add('cap')
        desk.keep()
        desk.trial(self.change)
        self.assertEqual(len(desk), 4)

    def test_errors(self):
        desk, before = self.desk()

        def work(given):
            self.change(given)
            given.join(0, 1, 1, 0)

        with self.assertRaises(BadLinks):
            desk.trial(work)
        self.assertEqual(state(desk), before)

        def keeping(given):
            given.add('cap')
            given.keep()
            given.add('cap')
            raise KeyError('own')

        with self.assertRaises(KeyError):
            desk.trial(keeping)
        self.assertEqual(len(desk), 4)
        for bad in (None, 5):
            with self.assertRaises(TypeError):
                desk.trial(bad)
        self.assertEqual(len(desk), 4)
        # No trial is going on any more.
        desk.add('cap')
        desk.keep()
        desk.trial(self.change)
        self.assertEqual(len(desk), 5)

    def test_trials_within_trials(self):
        desk, before = self.desk()
        seen = []

        def inner(given):
            given.add('cap')
            given.keep()
            given.add('cap')
            seen.append(len(given))

        def outer(given):
            given.add('tee')
            given.trial(inner)
            seen.append(len(given))
            given.add('tee')

        desk.trial(outer)
        # What is kept within the inner trial stays there for the outer one, and goes when this ends.
        self.assertEqual(seen, [6, 5])
        self.assertEqual(state(desk), before)

    def test_keep_after_an_inner_trial(self):
        desk, _ = self.desk()

        def inner(given):
            given.add('cap')
            given.keep()
            given.add('cap')

        def outer(given):
            given.trial(inner)
            given.keep()
            given.trial(inner)
            given.trial(self.change)

        desk.trial(outer)
        self.assertEqual(len(desk), 4)

    def test_inner_trial_ended_by_an_error(self):
        desk, before = self.desk()
        seen = []

        def failing(given):
            given.add('cap')
            raise ValueError('own')

        def outer(given):
            given.add('tee')
            given.keep()
            try:
                given.trial(failing)
            except ValueError:
                seen.append(len(given))
            given.add('tee')

        desk.trial(outer)
        self.assertEqual((seen, len(desk)), ([4], 4))

        def passing(given):
            given.add('tee')
            given.trial(failing)

        with self.assertRaises(ValueError):
            desk.trial(passing)
        self.assertEqual(len(desk), 4)
        self.assertNotEqual(state(desk), before)

    def test_held_against_copies(self):
        rnd = seeded(90)
        for _ in range(60):
            desk = Desk(SHEET)
            blocks, links = [], []
            stack = []

            def step(given):
                choice = rnd.random()
                if choice < 0.4:
                    name = rnd.choice(SHEET.names())
                    self.assertEqual(given.add(name), len(blocks))
                    blocks.append(name)
                elif choice < 0.8:
                    free = given.free()
                    pairs = [
                        (one, two) for at, one in enumerate(free) for two in free[at + 1:]
                        if SHEET.partner(SHEET.ends(blocks[one[0]])[one[1]]) == SHEET.ends(blocks[two[0]])[two[1]]
                    ]
                    if pairs:
                        one, two = rnd.choice(pairs)
                        given.join(*(one + two if rnd.random() < 0.5 else two + one))
                        links.append((one, two))
                elif links:
                    link = rnd.choice(links)
                    given.part(*rnd.choice(link))
                    links.remove(link)

            def work(given):
                stack.append((list(blocks), list(links)))
                for _ in range(rnd.randint(0, 6)):
                    step(given)
                    if rnd.random() < 0.2:
                        given.keep()
                        stack[-1] = (list(blocks), list(links))
                    if rnd.random() < 0.2 and len(stack) < 4:
                        given.trial(work)
                    self.check(given, blocks, links)
                blocks[:], links[:] = stack.pop()

            for _ in range(6):
                for _ in range(3):
                    step(desk)
                desk.keep()
                desk.trial(work)
                self.check(desk, blocks, links)

    def check(self, desk, blocks, links):
        other = rebuilt(SHEET, blocks, links)
        self.assertEqual(state(desk), state(other))
        self.assertEqual(desk.all_links(), sorted(links))
        self.assertEqual([len(piece) for piece in desk.pieces()], [len(part) for part in parts(len(blocks), links)])
