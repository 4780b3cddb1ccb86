import unittest

from endsmeet.ringed import Ringed
from tests.support import seeded


def groups(many, edges):
    """For each node the least one that it is connected with."""
    least = list(range(many))
    for _ in range(many):
        for one, other in edges:
            least[one] = least[other] = min(least[one], least[other])
    return least


class Rings(unittest.TestCase):
    def test_held_against_plain_search(self):
        rnd = seeded(140)
        for _ in range(500):
            many = rnd.randint(1, 9)
            edges = [(rnd.randrange(many), rnd.randrange(many)) for _ in range(rnd.randint(0, 12))]
            found = Ringed(many, edges)
            whole = groups(many, edges)
            for one in range(many):
                for other in range(many):
                    self.assertEqual(found.root[one] == found.root[other], whole[one] == whole[other])
            self.assertEqual(
                found.is_ring, [groups(many, edges[:at] + edges[at + 1:]) == whole for at in range(len(edges))],
            )

    def test_long_ring(self):
        edges = [(at, (at + 1) % 20000) for at in range(20000)]
        self.assertEqual(Ringed(20000, edges).is_ring, [True] * 20000)
        self.assertEqual(Ringed(20000, edges[1:]).is_ring, [False] * 19999)
