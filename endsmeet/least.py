"""The least vectors without excess: each other one is a sum of these."""

from heapq import heappop, heappush

from endsmeet.vectors import added, is_below, product_of


def _is_above_one(vector, others):
    """Whether one of some vectors is below a vector."""
    for other in others:
        if is_below(other, vector):
            return True
    return False


def _even_sums(vectors, row):
    """The least sums of some vectors whose product with a row is even."""
    odd = [vector for vector in vectors if product_of(row, vector) & 1]
    found = {vector: True for vector in vectors if not product_of(row, vector) & 1}
    for at, one in enumerate(odd):
        for other in odd[at:]:
            found[added(one, other)] = True
    least = []
    for vector in sorted(list(found), key=sum):
        if not _is_above_one(vector, least):
            least.append(vector)
    return least


def _is_needless(vector, value, sides):
    """Whether a vector is a sum of one without product, or with a lesser one of the same sign, and of another."""
    if _is_above_one(vector, sides[0]):
        return True
    if value == 0:
        return False
    for other, product in sides[1 if value > 0 else -1]:
        if abs(product) <= abs(value) and is_below(other, vector):
            return True
    return False


def _zero_sums(vectors, row):
    """The least sums of some vectors whose product with a row is 0.

    Vectors with products of either sign are kept, too, as long as they are least ones for theirs. Sums are taken
    up by their size, so that whatever makes one needless has been taken up before it.
    """
    queue = []
    known = {}
    for vector in vectors:
        known[vector] = True
        heappush(queue, (sum(vector), vector))
    sides = {0: [], 1: [], -1: []}
    while queue:
        _, vector = heappop(queue)
        value = product_of(row, vector)
        if _is_needless(vector, value, sides):
            continue
        if value == 0:
            sides[0].append(vector)
            continue
        sign = 1 if value > 0 else -1
        sides[sign].append((vector, value))
        for other, _ in sides[-sign]:
            total = added(vector, other)
            if total not in known:
                known[total] = True
                heappush(queue, (sum(total), total))
    return sides[0]


def least_vectors(many, rows):
    """The least vectors of so many numbers, other than 0, without excess, by their sums, then as tuples."""
    vectors = [tuple([1 if at == place else 0 for at in range(many)]) for place in range(many)]
    for row, is_own in rows:
        if is_own:
            vectors = _even_sums(vectors, row)
    for row, is_own in rows:
        if not is_own:
            vectors = _zero_sums(vectors, row)
    return sorted(vectors, key=lambda vector: (sum(vector), vector))
