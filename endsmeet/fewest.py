"""The fewest pieces of amounts, and conditions for one piece."""

from endsmeet.balance import is_balanced
from endsmeet.errors import BadBlock, NotBalanced, TooLarge
from endsmeet.gathering import gathered
from endsmeet.given import check_sheet, check_some_amounts
from endsmeet.joining import copies_of, is_whole_piecing
from endsmeet.links import parts_of
from endsmeet.vectors import used_names

MOST_JOINTS = 8


def _check_fewest(sheet, amounts):
    """Raise the first error that holds for what is asked of a sheet and amounts."""
    check_sheet(sheet)
    check_some_amounts(sheet, amounts)
    if not is_balanced(sheet, amounts):
        raise NotBalanced("these amounts have no whole piecing")
    if len(sheet.joints()) > MOST_JOINTS:
        raise TooLarge("the sheet has more than 8 joints")


def _joints_of(sheet, names):
    """The ascending list of the joints at which some blocks have ends."""
    return sorted(set([sheet.joint(kind) for name in names for kind in sheet.ends(name)]))


def _sets_of(joints):
    """All lists of some joints, shorter ones first, those of the same length in ascending order."""
    found = [[]]
    for joint in joints:
        found = found + [some + [joint] for some in found]
    return sorted(found, key=lambda some: (len(some), some))


def _touched(sheet, name, across):
    """The joints among some at which a block has ends, and the number of its ends at others."""
    joints = [sheet.joint(kind) for kind in sheet.ends(name)]
    near = [joint for joint in joints if joint in across]
    return near, len(joints) - len(near)


def _number_of_groups(lists):
    """The number of groups of lists of joints, if those that share a joint are together."""
    groups = []
    for joints in lists:
        apart = [group for group in groups if not any([joint in group for joint in joints])]
        merged = [joint for group in groups if group not in apart for joint in group]
        groups = apart + [merged + joints]
    return len(groups)


def _least_by(sheet, amounts, across):
    """The number of parts of amounts by some joints, minus the number of links at all others."""
    lists, loose, ends = [], 0, 0
    for name in used_names(amounts):
        near, others = _touched(sheet, name, across)
        ends += others * amounts[name]
        if near:
            lists.append(near)
        else:
            loose += amounts[name]
    return loose + _number_of_groups(lists) - ends // 2


class Fewest:
    """A whole piecing, and joints that show that no other one has fewer pieces."""

    def __init__(self, links, across):
        self.links = list(links)
        self.across = list(across)

    def shows(self, sheet, amounts):
        """Whether links and joints are as described for amounts."""
        _check_fewest(sheet, amounts)
        across = self.across
        if not isinstance(across, list) or across != [joint for joint in sheet.joints() if joint in across]:
            return False
        if not is_whole_piecing(sheet, amounts, self.links):
            return False
        pieces = len(parts_of(len(copies_of(sheet, amounts)), self.links))
        return pieces == 1 or pieces == _least_by(sheet, amounts, across)

    def __eq__(self, other):
        return isinstance(other, Fewest) and self.links == other.links and self.across == other.across


def fewest(sheet, amounts):
    """A Fewest of amounts."""
    _check_fewest(sheet, amounts)
    links, across = gathered(sheet, copies_of(sheet, amounts))
    return Fewest(links, across)


def least_pieces(sheet, amounts):
    """The least number of pieces of a whole piecing of amounts."""
    _check_fewest(sheet, amounts)
    joints = _joints_of(sheet, used_names(amounts))
    return max([_least_by(sheet, amounts, across) for across in _sets_of(joints)])


def _check_names(sheet, names):
    """Raise BadBlock, if a value is not an ascending tuple of names of blocks, at least one."""
    if not isinstance(names, tuple) or not names:
        raise BadBlock("the names are not a tuple with at least one")
    if not all([name in sheet for name in names]):
        raise BadBlock("the sheet has no such block")
    if not all([names[at] < names[at + 1] for at in range(len(names) - 1)]):
        raise BadBlock("the names do not ascend")


def _row(sheet, names, across):
    """The condition that some joints give for amounts of blocks."""
    told = [_touched(sheet, name, across) for name in names]
    numbers = [(0 if near else 2) - others for near, others in told]
    return tuple(numbers), 2 - 2 * _number_of_groups([near for near, _ in told if near])


def conditions(sheet, names):
    """The rows of conditions for one piece of some blocks."""
    check_sheet(sheet)
    _check_names(sheet, names)
    joints = _joints_of(sheet, names)
    if len(joints) > MOST_JOINTS:
        raise TooLarge("the blocks have ends at more than 8 joints")
    return [_row(sheet, names, across) for across in _sets_of(joints)]
