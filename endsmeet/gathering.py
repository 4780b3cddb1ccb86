"""Whole piecings in as few pieces as can be.

A first whole piecing is grown greedily. Let T be the joints with a link in a ring. If one of them has copies in two
pieces, an exchange of that link and of one in the other piece makes one piece of both.

If none has, let all copies with an end at a joint of T be connected with one another: further links may be in rings
then. Their joints are added to T, round by round. If one of them has copies in two pieces, an exchange of such a link
and of one in the other piece makes as many pieces, and parts the copies of a joint of the round before: this one has
copies in two pieces now. So after some exchanges, one for each round, there is a piece less.

Once no joint can be added, the links at all other joints are in no ring even so, and the pieces are as many as the
parts by T less these links: no whole piecing has fewer.
"""

from endsmeet.ringed import Ringed


class Growth:
    """A whole piecing that is grown piece by piece, copies with many ends before others."""

    def __init__(self, sheet, blocks):
        self.sheet = sheet
        self.blocks = blocks
        self.links = []
        self.loose = {kind: [] for kind in sheet.kinds()}
        self.waiting = {kind: [] for kind in sheet.kinds()}
        self.is_taken = [False] * len(blocks)
        self.order = sorted(list(range(len(blocks))), key=self.number_of_ends)
        for copy in self.order:
            for end, kind in enumerate(sheet.ends(blocks[copy])):
                self.waiting[kind].append((copy, end))

    def number_of_ends(self, copy):
        """The number of the ends of a copy."""
        return len(self.sheet.ends(self.blocks[copy]))

    def link(self, one, other):
        """Join two ends; the one of the lesser kind is told first."""
        kind = self.sheet.ends(self.blocks[one[0]])[one[1]]
        joint = self.sheet.joint(kind)
        self.links.append((joint, one, other) if kind == joint else (joint, other, one))

    def take(self, copy, linked):
        """Add a copy to the piece that grows; its ends but the one that is linked are free."""
        self.is_taken[copy] = True
        for end, kind in enumerate(self.sheet.ends(self.blocks[copy])):
            if (copy, end) != linked:
                self.loose[kind].append((copy, end))

    def next_place(self):
        """The end by which a waiting copy with as many ends as can be fits a free end, and the kind of that one."""
        best, asked = None, None
        for kind, places in self.loose.items():
            waiting = self.waiting[self.sheet.partner(kind)]
            while waiting and self.is_taken[waiting[-1][0]]:
                waiting.pop()
            if places and waiting:
                if best is None or self.number_of_ends(waiting[-1][0]) > self.number_of_ends(best[0]):
                    best, asked = waiting[-1], kind
        return best, asked

    def close(self):
        """Join the free ends, which no waiting copy fits, with one another."""
        for joint in self.sheet.joints():
            other = self.sheet.partner(joint)
            while self.loose[joint]:
                one = self.loose[joint].pop()
                self.link(one, self.loose[other].pop())

    def run(self):
        """Grow pieces until there is no copy left; the list of the links, each with its joint."""
        for copy in reversed(self.order):
            if not self.is_taken[copy]:
                self.take(copy, None)
                place, kind = self.next_place()
                while place is not None:
                    self.link(self.loose[kind].pop(), place)
                    self.take(place[0], place)
                    place, kind = self.next_place()
                self.close()
        return self.links


class Gathering:
    """Copies with links that are exchanged until they make as few pieces as can be."""

    def __init__(self, sheet, blocks):
        self.many = len(blocks)
        self.links = Growth(sheet, blocks).run()
        self.holders = {}
        for copy, name in enumerate(blocks):
            joints = sorted(set([sheet.joint(kind) for kind in sheet.ends(name)]))
            for joint in joints:
                self.holders.setdefault(joint, []).append(copy)

    def net(self, joints):
        """The links as edges, and for each of some joints a further node that all its copies are connected with."""
        edges = [(one[0], other[0]) for _, one, other in self.links]
        for at, joint in enumerate(joints):
            edges.extend([(copy, self.many + at) for copy in self.holders[joint]])
        return Ringed(self.many + len(joints), edges)

    def improve(self):
        """Exchange two links towards fewer pieces: None, or the joints that show that there are as few as can be."""
        found = {}
        net = self.net([])
        root = net.root
        while True:
            fresh = {}
            for at, (joint, _, _) in enumerate(self.links):
                if net.is_ring[at] and joint not in found:
                    fresh[joint] = at
            if not fresh:
                return sorted(found)
            found.update(fresh)
            for joint, at in fresh.items():
                other = self.link_elsewhere(joint, root, root[self.links[at][1][0]])
                if other is not None:
                    self.exchange(at, other)
                    return None
            net = self.net(sorted(found))

    def link_elsewhere(self, joint, root, piece):
        """A link at a joint that is in another piece than a told one, or None."""
        for at, (near, one, _) in enumerate(self.links):
            if near == joint and root[one[0]] != piece:
                return at
        return None

    def exchange(self, at, other):
        """Exchange two links at one joint."""
        joint, one, two = self.links[at]
        _, three, four = self.links[other]
        self.links[at] = (joint, one, four)
        self.links[other] = (joint, three, two)


def gathered(sheet, blocks):
    """A whole piecing of copies in as few pieces as can be, and the joints that show this."""
    gathering = Gathering(sheet, blocks)
    across = gathering.improve()
    while across is None:
        across = gathering.improve()
    return sorted([(min(one, other), max(one, other)) for _, one, other in gathering.links]), across
