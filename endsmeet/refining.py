"""Least machines: states that lead to the same are made one."""

from endsmeet.tables import Table


class Blocks:
    """States in blocks, which are split until the states of each block lead to the same.

    `back` has for each state the pairs of a state and a sign from which an arrow leads to it.
    """

    def __init__(self, table):
        self.back = table.into()
        self.block_of = [1 if is_end else 0 for is_end in table.finals]
        self.members = [{}, {}]
        for state, block in enumerate(self.block_of):
            self.members[block][state] = True
        self.waiting = [0, 1]
        self.is_waiting = [True, True]

    def refine(self):
        """Split the blocks as far as needed."""
        while self.waiting:
            block = self.waiting.pop()
            self.is_waiting[block] = False
            for sources in self.sources_of(block):
                self.split_by(sources)

    def sources_of(self, block):
        """For each sign the states from which it leads into a block."""
        found = {}
        for state in self.members[block]:
            for source, sign in self.back[state]:
                found.setdefault(sign, []).append(source)
        return list(found.values())

    def split_by(self, sources):
        """Split the blocks that have both states of a list and others."""
        parts = {}
        for source in sources:
            parts.setdefault(self.block_of[source], []).append(source)
        for block, part in parts.items():
            if len(part) < len(self.members[block]):
                self.divide(block, part)

    def divide(self, block, part):
        """Make a part of a block a block of its own."""
        new = len(self.members)
        rest, own = self.members[block], {}
        for state in part:
            del rest[state]
            own[state] = True
            self.block_of[state] = new
        self.members.append(own)
        # Where the whole block is settled, its smaller part settles the other one.
        is_new = self.is_waiting[block] or len(own) <= len(rest)
        self.is_waiting.append(is_new)
        if is_new:
            self.waiting.append(new)
        else:
            self.is_waiting[block] = True
            self.waiting.append(block)


def _live_states(table):
    """For each state whether an end can be reached from it."""
    back = table.into()
    is_live = list(table.finals)
    waiting = [state for state, is_end in enumerate(is_live) if is_end]
    while waiting:
        state = waiting.pop()
        for source, _ in back[state]:
            if not is_live[source]:
                is_live[source] = True
                waiting.append(source)
    return is_live


def _trimmed(table):
    """The machine with those states alone from which an end can be reached; the start must be one."""
    is_live = _live_states(table)
    numbers = {}
    for state, is_kept in enumerate(is_live):
        if is_kept:
            numbers[state] = len(numbers)
    arrows = [
        {sign: numbers[other] for sign, other in table.arrows[state].items() if other in numbers} for state in numbers
    ]
    return Table(arrows, [table.finals[state] for state in numbers])


def _numbered(table, block_of):
    """The machine of blocks, numbered in the order in which they are reached."""
    numbers = {block_of[0]: 0}
    samples = [0]
    arrows, finals = [], []
    while len(arrows) < len(samples):
        sample = samples[len(arrows)]
        told = table.arrows[sample]
        row = {}
        for sign in sorted(told):
            block = block_of[told[sign]]
            if block not in numbers:
                numbers[block] = len(samples)
                samples.append(told[sign])
            row[sign] = numbers[block]
        arrows.append(row)
        finals.append(table.finals[sample])
    return Table(arrows, finals)


def least(table):
    """The least machine for the rows of signs that a machine takes; all its states can be reached."""
    if not _live_states(table)[0]:
        return Table([{}], [False])
    trimmed = _trimmed(table)
    blocks = Blocks(trimmed)
    blocks.refine()
    return _numbered(trimmed, blocks.block_of)
