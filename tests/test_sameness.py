import unittest

from endsmeet.errors import BadPiece, BadSheet
from endsmeet.notation import read_piece
from endsmeet.pieces import Piece
from endsmeet.sameness import Same, same, turns
from endsmeet.sheets import Sheet
from tests.support import (
    AB, are_same, graph, maps, random_piece, random_sheet, ring, seeded, turned_piece,
)

ROUND = Sheet({'c': 'c'}, {
    'cap': ('c',), 'rod': ('c', 'c'), 'hub': ('c', 'c', 'c'), 'box': ('c', 'c', 'c', 'c'),
})
HUB = Sheet(AB, {'hub': ('b', 'b', 'b'), 'cap': ('a',), 'rod': ('a', 'b')})

PETERSEN = [(at, (at + 1) % 5) for at in range(5)] + [(5 + at, 5 + (at + 2) % 5) for at in range(5)]
PETERSEN = PETERSEN + [(at, at + 5) for at in range(5)]
CUBE = [(at, at ^ bit) for at in range(16) for bit in (1, 2, 4, 8) if at < at ^ bit]


def prism(many):
    sides = [(at, (at + 1) % many) for at in range(many)]
    return sides + [(many + one, many + two) for one, two in sides] + [(at, many + at) for at in range(many)]


def band(many):
    return [(at, (at + 1) % (2 * many)) for at in range(2 * many)] + [(at, many + at) for at in range(many)]


def random_graph(rnd, many, degree):
    """The edges of a connected graph without double edges, all of whose corners have so many neighbours."""
    while True:
        places = [corner for corner in range(many) for _ in range(degree)]
        rnd.shuffle(places)
        edges = sorted({tuple(sorted(places[at:at + 2])) for at in range(0, len(places), 2)})
        seen = {0}
        for _ in range(many):
            seen.update(corner for edge in edges if seen & set(edge) for corner in edge)
        if len(edges) == len(places) // 2 and len(seen) == many and all(one != two for one, two in edges):
            return edges


def graph_turns(edges, other=None):
    """The number of maps of the corners of a graph that keep its edges, found one corner after the other."""
    near, there = {}, {}
    for net, told in ((near, edges), (there, other or edges)):
        for one, two in told:
            net.setdefault(one, set()).add(two)
            net.setdefault(two, set()).add(one)

    def count(images):
        corner = len(images)
        if corner == len(near):
            return 1
        fits = [
            image for image in there if image not in images
            and all((before in near[corner]) == (images[before] in there[image]) for before in range(corner))
        ]
        return sum(count(images + [image]) for image in fits)

    return count([])


class Turns(unittest.TestCase):
    def test_free_ends_of_a_kind_can_be_exchanged(self):
        self.assertEqual(turns(HUB, Piece(['hub'], [])), 6)
        self.assertEqual(turns(HUB, Piece(['rod'], [])), 1)
        self.assertEqual(turns(HUB, read_piece(HUB, 'hub(0-0 cap)')), 2)
        self.assertEqual(turns(HUB, read_piece(HUB, 'hub(0-0 cap, 1-0 cap)')), 2)
        self.assertEqual(turns(HUB, read_piece(HUB, 'hub(0-0 cap, 1-0 cap, 2-0 cap)')), 6)

    def test_links_of_one_copy(self):
        self.assertEqual(turns(ROUND, read_piece(ROUND, 'rod(0@1, 1@1)')), 2)
        self.assertEqual(turns(ROUND, read_piece(ROUND, 'box(0@1, 1@1)')), 4)
        self.assertEqual(turns(ROUND, read_piece(ROUND, 'box(0@1, 1@1, 2@2, 3@2)')), 8)
        self.assertEqual(turns(HUB, read_piece(HUB, 'rod(0@1, 1@1)')), 1)

    def test_links_between_two_copies(self):
        self.assertEqual(turns(ROUND, read_piece(ROUND, 'hub(0-0 hub(1@1, 2@2), 1@1, 2@2)')), 12)
        self.assertEqual(turns(ROUND, read_piece(ROUND, 'cap(0-0 cap)')), 2)

    def test_great_pieces(self):
        self.assertEqual(turns(ROUND, ring('rod', 200)), 400)
        self.assertEqual(turns(HUB, ring('rod', 200)), 200)
        self.assertEqual(turns(ROUND, graph('hub', 10, PETERSEN)), 120)
        self.assertEqual(turns(ROUND, graph('box', 16, CUBE)), 384)
        self.assertEqual(turns(ROUND, graph('hub', 200, prism(100))), 400)
        self.assertEqual(turns(ROUND, graph('hub', 200, band(100))), 400)
        double = [(at, (at + 1) % 200) for at in range(200)] * 2
        self.assertEqual(turns(ROUND, graph('box', 200, double)), 400 << 200)
        # A full tree of 1 + 3 + 6 + .. + 96 copies: each of them but the first one can exchange two ends.
        tree = graph('hub', 190, [(0, 1), (0, 2), (0, 3)] + [((at - 4) // 2 + 1, at) for at in range(4, 190)])
        self.assertEqual(turns(ROUND, tree), 6 << 189)

    def test_held_against_all_maps(self):
        rnd = seeded(2)
        for _ in range(150):
            sheet = random_sheet(rnd, rnd.randint(1, 2), rnd.randint(1, 2), 3)
            piece = random_piece(rnd, sheet, rnd.randint(1, 5), 4)
            self.assertEqual(turns(sheet, piece), len(list(maps(sheet, piece, piece))), (piece.blocks, piece.links))

    def test_graphs_without_like_ends(self):
        # All ends are linked, no two of them alike, so that turns are just the turns of the graph of the copies.
        rnd = seeded(9)
        found = []
        for _ in range(60):
            edges = random_graph(rnd, rnd.choice((6, 8, 10, 12)), 3)
            found.append(graph_turns(edges))
            many = 2 * len(edges) // 3
            self.assertEqual(turns(ROUND, graph('hub', many, edges)), found[-1])
        self.assertGreater(len(set(found)), 6)

    def test_errors(self):
        with self.assertRaises(BadSheet):
            turns(None, None)
        for piece in (None, 'hub', Piece(['bow'], []), Piece(['hub', 'hub'], [((0, 0), (1, 0))])):
            with self.assertRaises(BadPiece):
                turns(HUB, piece)


class Sameness(unittest.TestCase):
    def test_turned_pieces_are_the_same(self):
        rnd = seeded(3)
        for many in (1, 2, 5, 20, 60):
            for _ in range(12):
                sheet = random_sheet(rnd)
                one = random_piece(rnd, sheet, many, many // 2)
                other = turned_piece(rnd, sheet, one)
                self.assertTrue(same(sheet, one, other).shows(sheet, one, other))
                self.assertTrue(same(sheet, other, one).shows(sheet, other, one))

    def test_held_against_all_maps(self):
        rnd = seeded(4)
        found = {True: 0, False: 0}
        for _ in range(300):
            sheet = random_sheet(rnd, 1, 1, 4)
            many = rnd.randint(1, 4)
            one, other = random_piece(rnd, sheet, many, 4), random_piece(rnd, sheet, many, 4)
            answer = same(sheet, one, other)
            wanted = are_same(sheet, one, other)
            self.assertEqual(answer is not None, wanted)
            found[wanted] += 1
            if wanted:
                self.assertTrue(answer.shows(sheet, one, other))
        self.assertGreater(min(found.values()), 30)

    def test_graphs_held_against_all_maps(self):
        rnd = seeded(10)
        graphs = [random_graph(rnd, 8, 3) for _ in range(25)]
        alike = 0
        for one in graphs:
            for two in graphs:
                wanted = graph_turns(one, two) > 0
                alike += wanted
                pieces = [graph('hub', 8, edges) for edges in (one, two)]
                found = same(ROUND, *pieces)
                self.assertEqual(found is not None, wanted)
                self.assertTrue(found is None or found.shows(ROUND, *pieces))
        self.assertGreater(25 * 25 - alike, 100)

    def test_pieces_whose_neighbourhoods_are_alike(self):
        for one, other in (
            (prism(3), [(at, 3 + to) for at in range(3) for to in range(3)]),
            (prism(100), band(100)), (prism(10), band(10)),
            (prism(5), PETERSEN),
        ):
            many = 2 * len(one) // 3
            self.assertIsNone(same(ROUND, graph('hub', many, one), graph('hub', many, other)))

    def test_great_pieces(self):
        rnd = seeded(5)
        for piece in (
            ring('rod', 200), graph('hub', 200, prism(100)), graph('hub', 200, band(100)),
            graph('box', 16, CUBE), graph('box', 200, [(at, (at + 1) % 200) for at in range(200)] * 2),
            graph('hub', 190, [((at - 1) // 2, at) for at in range(1, 190)]),
        ):
            other = turned_piece(rnd, ROUND, piece)
            self.assertTrue(same(ROUND, piece, other).shows(ROUND, piece, other))

    def test_locked_twists(self):
        # A net with a gadget of 10 copies for each corner of the Petersen graph: a twist of one link of it cannot
        # be seen from any neighbourhood.
        def gadgets(twisted):
            number, edges = {}, []
            at = [[edge for edge in PETERSEN if corner in edge] for corner in range(10)]
            for corner in range(10):
                for bits in (0, 3, 5, 6):
                    for place, edge in enumerate(at[corner]):
                        edges.append(((corner, bits), (corner, edge, bits >> place & 1)))
            for edge in PETERSEN:
                for bit in (0, 1):
                    to = bit ^ (twisted and edge == PETERSEN[0])
                    edges.append(((edge[0], edge, bit), (edge[1], edge, to)))
            for pair in edges:
                for corner in pair:
                    number.setdefault(corner, len(number))
            return graph('hub', len(number), [(number[one], number[two]) for one, two in edges])

        straight, twisted = gadgets(False), gadgets(True)
        self.assertEqual(turns(ROUND, straight), 120 << 6)
        self.assertIsNone(same(ROUND, straight, twisted))
        other = turned_piece(seeded(6), ROUND, twisted)
        self.assertTrue(same(ROUND, twisted, other).shows(ROUND, twisted, other))

    def test_unlike(self):
        self.assertIsNone(same(HUB, Piece(['rod'], []), Piece(['hub'], [])))
        self.assertIsNone(same(HUB, Piece(['rod'], []), read_piece(HUB, 'rod(0@1, 1@1)')))
        self.assertIsNone(same(HUB, Piece(['rod'], []), read_piece(HUB, 'rod(0-1 rod)')))
        # The kinds of ends are kept, so that the order of a chain counts.
        one, other = read_piece(HUB, 'rod(0-0 hub)'), read_piece(HUB, 'hub(2-0 rod)')
        self.assertIsNotNone(same(HUB, one, other))
        one, other = read_piece(HUB, 'hub(0-0 rod(1-0 rod(1-0 cap)))'), read_piece(HUB, 'hub(0-0 rod(1-0 cap), 1-0 rod)')
        self.assertIsNone(same(HUB, one, other))

    def test_shows(self):
        one = read_piece(HUB, 'hub(0-0 cap, 1-0 rod(1-0 cap))')
        other = read_piece(HUB, 'rod(0-2 hub(0-0 cap), 1-0 cap)')
        found = same(HUB, one, other)
        self.assertEqual(found.copies, [1, 2, 0, 3])
        self.assertTrue(found.shows(HUB, one, other))
        self.assertFalse(found.shows(HUB, one, one))
        self.assertFalse(found.shows(HUB, one, Piece(['cap'], [])))
        for copies in (
            [], [1, 2, 0], [1, 2, 0, 3, 4], [1, 2, 0, 0], [3, 2, 0, 1], [1, 2, 0, -1], [1, 2, 0, 4], [0, 1, 2, 3],
            [True, 2, 0, 3], [1, 2, False, 3],
        ):
            altered = Same(found.copies, found.turned)
            altered.copies = copies
            self.assertIs(altered.shows(HUB, one, other), False, copies)
        good = found.turned
        for turned in (
            [], good[:3], good + [(0,)], [(0, 1, 2)] + good[1:], [(0, 2)] + good[1:], [(2, 0, 1, 3)] + good[1:],
            [(0, 2, 2)] + good[1:], [(0, 2, -1)] + good[1:], [(0, 2, 5)] + good[1:], good[:2] + [(1, 0), (0,)],
            good[:1] + [(False,)] + good[2:], good[:1] + [()] + good[2:], good[:1] + [[0]] + good[2:],
        ):
            altered = Same(found.copies, found.turned)
            altered.turned = turned
            self.assertIs(altered.shows(HUB, one, other), False, turned)

    def test_shows_wants_blocks_and_kinds(self):
        sheet = Sheet(AB, {'rod': ('a', 'b'), 'bar': ('a', 'b'), 'two': ('a', 'a')})
        rod = Piece(['rod'], [])
        self.assertIs(Same([0], [(0, 1)]).shows(sheet, rod, rod), True)
        self.assertIs(Same([0], [(1, 0)]).shows(sheet, rod, rod), False)
        self.assertIs(Same([0], [(0, 1)]).shows(sheet, rod, Piece(['bar'], [])), False)
        self.assertIsNone(same(sheet, rod, Piece(['bar'], [])))
        self.assertIs(Same([0], [(1, 0)]).shows(sheet, Piece(['two'], []), Piece(['two'], [])), True)

    def test_shows_wants_all_links(self):
        one = read_piece(ROUND, 'rod(0-0 rod)')
        other = read_piece(ROUND, 'rod(0-0 rod(1@1), 1@1)')
        self.assertIs(Same([0, 1], [(0, 1), (0, 1)]).shows(ROUND, one, other), False)
        self.assertIs(Same([0, 1], [(0, 1), (0, 1)]).shows(ROUND, other, one), False)

    def test_equal_and_copied(self):
        copies, turned = (0, 1), ((0,), (0,))
        one = Same(copies, turned)
        self.assertEqual((one.copies, one.turned), ([0, 1], [(0,), (0,)]))
        self.assertEqual(one, Same([0, 1], [(0,), (0,)]))
        self.assertNotEqual(one, Same([1, 0], [(0,), (0,)]))
        self.assertNotEqual(one, Same([0, 1], [(0,), (1,)]))
        self.assertNotEqual(one, ([0, 1], [(0,), (0,)]))
        copies = [0, 1]
        one = Same(copies, turned)
        copies.append(2)
        self.assertEqual(one.copies, [0, 1])
        other = Same([0, 1], turned)
        other.copies.append(2)
        self.assertNotEqual(one, other)

    def test_errors(self):
        one = Piece(['rod'], [])
        for ask in (same, Same([0], [(0, 1)]).shows):
            with self.assertRaises(BadSheet):
                ask(None, None, None)
            for bad in (None, 'rod', Piece(['bow'], [])):
                with self.assertRaises(BadPiece):
                    ask(HUB, bad, one)
                with self.assertRaises(BadPiece):
                    ask(HUB, one, bad)
