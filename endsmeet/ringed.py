"""Nodes and edges between them: which are connected, and which edges are in rings."""


class Ringed:
    """Numbered nodes with edges, pairs of nodes.

    `root` has a number for each node, the same for those that are connected; `is_ring` tells for each edge whether
    it is in a ring, so that without it the same nodes are connected.
    """

    def __init__(self, many, edges):
        self.root = [-1] * many
        self.is_ring = [True] * len(edges)
        self.up_node = [-1] * many
        self.up_edge = [-1] * many
        self.depth = [0] * many
        self.top = list(range(many))
        near = [[] for _ in range(many)]
        for at, (one, other) in enumerate(edges):
            near[one].append((other, at))
            near[other].append((one, at))
        for node in range(many):
            if self.root[node] < 0:
                self.grow(node, near)
        loose = [at for at in range(len(edges)) if self.is_ring[at]]
        for at in loose:
            self.close(edges[at][0], edges[at][1])

    def grow(self, root, near):
        """Make a tree of all nodes that are connected with a root; of its edges no ring is known yet."""
        self.root[root] = root
        waiting = [root]
        while waiting:
            node = waiting.pop()
            for other, at in near[node]:
                if self.root[other] < 0:
                    self.root[other] = root
                    self.up_node[other] = node
                    self.up_edge[other] = at
                    self.depth[other] = self.depth[node] + 1
                    self.is_ring[at] = False
                    waiting.append(other)

    def top_of(self, node):
        """The uppermost node that a node reaches in the tree along edges in rings."""
        while self.top[node] != node:
            self.top[node] = self.top[self.top[node]]
            node = self.top[node]
        return node

    def close(self, one, other):
        """Mark the edges of the tree between two nodes as in rings, since a further edge joins these."""
        one, other = self.top_of(one), self.top_of(other)
        while one != other:
            if self.depth[one] < self.depth[other]:
                one, other = other, one
            self.is_ring[self.up_edge[one]] = True
            self.top[one] = self.up_node[one]
            one = self.top_of(one)
