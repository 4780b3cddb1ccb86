"""Numbers of the chains of families."""

from endsmeet.errors import BadNumber, TooLarge
from endsmeet.families import check_alike
from endsmeet.turning import Mirror, counts_behind, number_of_chains, taken
from endsmeet.words import is_int

LONGEST = 2000
MOST_STATES = 30
MOST_COMPARED = 12


def count_chains(family, many):
    """The number of the chains of a family with so many blocks."""
    if not is_int(many) or not 0 <= many <= LONGEST:
        raise BadNumber("the number is not an integer from 0 to 2000")
    if len(family.machine.arrows) > MOST_STATES:
        raise TooLarge("the least machine has more than 30 states")
    return number_of_chains(family.sheet, family.machine, many)


def _numbers_up_to(family, most):
    """Twice the numbers of chains of a family with 0, 1, .. blocks, as far as told."""
    mirror = Mirror(family.sheet, family.machine)
    counts = [{0: 1}]
    for _ in range(most):
        counts.append(counts_behind(family.machine, counts[-1]))
    return [
        taken(family.machine, counts[many]) + mirror.number(counts[many // 2], many & 1 == 1)
        for many in range(most + 1)
    ]


def first_unlike(one, other):
    """The least number of blocks of which two families have unlike numbers of chains, or None."""
    check_alike(one, other)
    states = [len(family.machine.arrows) for family in (one, other)]
    if max(states) > MOST_COMPARED:
        raise TooLarge("a least machine has more than 12 states")
    # For even numbers of blocks, and for odd ones, each number follows from as many before it as there are states of
    # the machines, twice each: once for all words, and once for the halves of those that are their own turnings.
    most = 4 * sum(states) + 2
    numbers, others = _numbers_up_to(one, most), _numbers_up_to(other, most)
    unlike = [many for many in range(most + 1) if numbers[many] != others[many]]
    return unlike[0] if unlike else None
