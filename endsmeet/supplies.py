"""Endless supplies: whether a block can be used up, or weights of kinds rule it out."""

from endsmeet.balance import excesses, is_amounts_dict, is_balanced, is_kinds_dict
from endsmeet.given import check_block, check_sheet
from endsmeet.simplex import Tableau
from endsmeet.words import is_count, is_int


class Supply:
    """Amounts with a told block that have a whole piecing."""

    def __init__(self, amounts):
        self.amounts = dict(amounts)

    def shows(self, sheet, name):
        """Whether the amounts are as described for a block."""
        check_sheet(sheet)
        check_block(sheet, name)
        amounts = self.amounts
        if not is_amounts_dict(sheet, amounts) or not all([is_count(many) for many in amounts.values()]):
            return False
        return amounts[name] > 0 and is_balanced(sheet, amounts)

    def __eq__(self, other):
        return isinstance(other, Supply) and self.amounts == other.amounts


class Kept:
    """Weights of kinds that rule out that a told block is ever used up."""

    def __init__(self, weights):
        self.weights = dict(weights)

    def shows(self, sheet, name):
        """Whether the weights are as described for a block."""
        check_sheet(sheet)
        check_block(sheet, name)
        weights = self.weights
        if not is_kinds_dict(sheet, weights) or not all([is_int(weight) for weight in weights.values()]):
            return False
        if any([weights[kind] + weights[sheet.partner(kind)] != 0 for kind in weights]):
            return False
        sums = {block: sum([weights[kind] for kind in sheet.ends(block)]) for block in sheet}
        return sums[name] > 0 and min(list(sums.values())) >= 0

    def __eq__(self, other):
        return isinstance(other, Kept) and self.weights == other.weights


def _column(sheet, name, rows):
    """The excesses of a copy of a block at the joints of two kinds, by the numbers of their rows."""
    column = {}
    for kind in sheet.ends(name):
        joint = sheet.joint(kind)
        if joint in rows:
            column[rows[joint]] = column.get(rows[joint], 0) + (1 if kind == joint else -1)
    return {row: worth for row, worth in column.items() if worth != 0}


def _supply_of(sheet, found):
    """A Supply of amounts that have no excess but at joints of one kind."""
    many = excesses(sheet, found)
    times = 2 if any(list(many.values())) else 1
    return Supply({name: times * found[name] for name in sheet})


def _kept_of(sheet, rows, weights):
    """A Kept of weights of joints."""
    found = {}
    for kind in sheet.kinds():
        joint = sheet.joint(kind)
        weight = weights[rows[joint]] if joint in rows else 0
        found[kind] = weight if kind == joint else -weight
    return Kept(found)


def supply(sheet, name):
    """A Supply or a Kept of a block."""
    check_sheet(sheet)
    check_block(sheet, name)
    joints = [joint for joint in sheet.joints() if sheet.partner(joint) != joint]
    rows = {joint: at for at, joint in enumerate(joints)}
    others = [other for other in sheet if other != name]
    own = _column(sheet, name, rows)
    # The other blocks have to make up for what one copy of the told one has too much.
    tableau = Tableau([_column(sheet, other, rows) for other in others], [-own.get(at, 0) for at in range(len(joints))])
    tableau.run()
    told = tableau.times()
    if told is None:
        return _kept_of(sheet, rows, [-weight for weight in tableau.ruling_weights()])
    times, scale = told
    found = dict(zip(others, times))
    found[name] = scale
    return _supply_of(sheet, found)
