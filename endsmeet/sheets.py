"""Sheets: kinds with their partners, and blocks with their ends."""

from endsmeet.errors import BadBlock, BadKind, BadSheet
from endsmeet.words import is_word

MOST_ENDS = 4


def _are_partners(partners):
    """Whether a value tells one or more kinds, each the partner of its partner."""
    if not isinstance(partners, dict) or not partners:
        return False
    if not all([is_word(kind) for kind in partners]):
        return False
    for kind, other in partners.items():
        if not isinstance(other, str) or other not in partners:
            return False
        if partners[other] != kind:
            return False
    return True


def _are_ends(partners, ends):
    """Whether a value is a tuple of one to four kinds."""
    if not isinstance(ends, tuple) or not 1 <= len(ends) <= MOST_ENDS:
        return False
    return all([isinstance(kind, str) and kind in partners for kind in ends])


def _are_blocks(partners, blocks):
    """Whether a value tells blocks with ends of these kinds."""
    if not isinstance(blocks, dict):
        return False
    return all([is_word(name) and _are_ends(partners, blocks[name]) for name in blocks])


class Sheet:
    """Kinds with their partners, and blocks with their ends."""

    def __init__(self, partners, blocks):
        if not _are_partners(partners):
            raise BadSheet("the kinds and their partners are not as they must be")
        if not _are_blocks(partners, blocks):
            raise BadSheet("the blocks are not as they must be")
        self._partners = {kind: partners[kind] for kind in sorted(partners)}
        self._blocks = {name: blocks[name] for name in sorted(blocks)}
        self._names = sorted(blocks)

    def kinds(self):
        """The ascending list of all kinds."""
        return list(self._partners)

    def names(self):
        """The ascending list of the names of all blocks."""
        return list(self._names)

    def joints(self):
        """The ascending list of all joints."""
        return [kind for kind, other in self._partners.items() if kind <= other]

    def partner(self, kind):
        """The partner of a kind."""
        if not isinstance(kind, str) or kind not in self._partners:
            raise BadKind("the sheet has no such kind")
        return self._partners[kind]

    def joint(self, kind):
        """The joint of a kind: the lesser one of it and its partner."""
        return min(kind, self.partner(kind))

    def ends(self, name):
        """The tuple of the kinds of the ends of a block."""
        if not isinstance(name, str) or name not in self._blocks:
            raise BadBlock("the sheet has no such block")
        return self._blocks[name]

    def __len__(self):
        return len(self._names)

    def __contains__(self, name):
        return isinstance(name, str) and name in self._blocks

    def __iter__(self):
        return iter(self._names)

    def __eq__(self, other):
        return isinstance(other, Sheet) and self._partners == other._partners and self._blocks == other._blocks
