"""Amounts as tuples, one number for each of some blocks, and what their excesses are."""


def rows_of(sheet, names):
    """For each joint where some blocks have ends: the excesses of one copy of each, and whether they go by 2."""
    rows = []
    for joint in sheet.joints():
        other = sheet.partner(joint)
        is_own = joint == other
        row = []
        for name in names:
            ends = sheet.ends(name)
            row.append(ends.count(joint) if is_own else ends.count(joint) - ends.count(other))
        if any(row):
            rows.append((tuple(row), is_own))
    return rows


def product_of(row, vector):
    """The sum of the products of two tuples, number by number."""
    return sum([one * many for one, many in zip(row, vector)])


def is_even_vector(rows, vector):
    """Whether a vector has no excess."""
    for row, is_own in rows:
        value = product_of(row, vector)
        left = value & 1 if is_own else value
        if left != 0:
            return False
    return True


def is_below(one, other):
    """Whether no number of a vector is greater than that of another one."""
    for many, most in zip(one, other):
        if many > most:
            return False
    return True


def added(one, other):
    """The sum of two vectors."""
    return tuple([many + more for many, more in zip(one, other)])


def taken(one, other):
    """A vector less another one."""
    return tuple([many - less for many, less in zip(one, other)])


def used_names(amounts):
    """The ascending list of the blocks of which amounts have a copy."""
    return sorted([name for name in amounts if amounts[name] > 0])


def box_size(amounts):
    """The product of all amounts, each one with 1 added."""
    size = 1
    for many in amounts.values():
        size *= many + 1
    return size


def _vectors_below(tops):
    """All vectors with no number greater than one of some, by their sums."""
    vectors = [()]
    for top in tops:
        vectors = [vector + (many,) for vector in vectors for many in range(top + 1)]
    return sorted(vectors, key=sum)


def even_vectors(sheet, amounts):
    """The used names of amounts, and all vectors of these without excess and not beyond them, by their sums."""
    names = used_names(amounts)
    rows = rows_of(sheet, names)
    tops = [amounts[name] for name in names]
    return names, [vector for vector in _vectors_below(tops) if is_even_vector(rows, vector)]
