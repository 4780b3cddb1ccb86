"""Amounts, the ends that they have, and whether these can all be joined."""


def full_amounts(sheet, amounts):
    """Amounts with all names of a sheet, in ascending order."""
    return {name: amounts.get(name, 0) for name in sheet}


def number_of_ends(sheet, amounts):
    """The number of all ends of amounts."""
    return sum([many * len(sheet.ends(name)) for name, many in amounts.items()])


def ends_by_kind(sheet, amounts):
    """A dict from all kinds to the numbers of ends of amounts."""
    many = {kind: 0 for kind in sheet.kinds()}
    for name, copies in amounts.items():
        for kind in sheet.ends(name):
            many[kind] += copies
    return many


def excesses(sheet, amounts):
    """A dict from all joints to the excesses of amounts."""
    many = ends_by_kind(sheet, amounts)
    found = {}
    for joint in sheet.joints():
        other = sheet.partner(joint)
        found[joint] = many[joint] & 1 if other == joint else many[joint] - many[other]
    return found


def is_balanced(sheet, amounts):
    """Whether amounts have a whole piecing."""
    return not any(list(excesses(sheet, amounts).values()))


def is_amounts_dict(sheet, told):
    """Whether a dict has just the names of a sheet as keys."""
    return isinstance(told, dict) and len(told) == len(sheet) and all([name in told for name in sheet])


def is_kinds_dict(sheet, told):
    """Whether a dict has just the kinds of a sheet as keys."""
    kinds = sheet.kinds()
    return isinstance(told, dict) and len(told) == len(kinds) and all([kind in told for kind in kinds])
