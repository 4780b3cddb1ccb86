"""The numbers of different closed trees."""

from endsmeet.errors import BadNumber
from endsmeet.given import check_sheet
from endsmeet.words import is_int

MOST_NUMBERS = 60


def _asked_by(sheet, name):
    """The ascending list of the kinds of the tops that the ends of a block ask for."""
    return sorted([sheet.partner(kind) for kind in sheet.ends(name)])


def _without(kinds, kind):
    """Some kinds in order, less one time one of them, as a tuple."""
    at = kinds.index(kind)
    return tuple(kinds[:at] + kinds[at + 1:])


class Counts:
    """Numbers of trees with a top, and of choices of several ones.

    `tops` has a list for each kind: the numbers of different trees with a top of this kind, by their copies.
    `choices` has a list for each tuple of kinds that are asked for: the numbers of choices of a tree for each, where
    trees for the same kind are in no order, by their copies together. Both are told copy by copy.
    """

    def __init__(self, sheet):
        self.sheet = sheet
        self.tops = {kind: [0] for kind in sheet.kinds()}
        self.choices = {(): []}
        self.wholes = {}
        self.rests = {}
        for name in sheet:
            asked = _asked_by(sheet, name)
            self.wholes[name] = tuple(asked)
            self.rests[name] = [(kind, _without(asked, sheet.partner(kind))) for kind in sorted(set(sheet.ends(name)))]
            self.want(tuple(asked))
        # What a list is made of are lists for fewer kinds.
        self.order = sorted(list(self.choices), key=len)

    def want(self, asked):
        """Note that lists are wanted for some kinds, and for each part of these."""
        if asked not in self.choices:
            self.choices[asked] = []
            for at in range(len(asked)):
                self.want(asked[:at] + asked[at + 1:])

    def next_choices(self, asked):
        """The next number of the list for some kinds; the numbers of the trees up to there are told."""
        many = len(self.choices[asked])
        if not asked:
            return 0 if many else 1
        same = asked.count(asked[0])
        if same < len(asked):
            ones, others = self.choices[asked[:same]], self.choices[asked[same:]]
            return sum([ones[at] * others[many - at] for at in range(many + 1)])
        # The trees of a choice, each counted for each number of times that it is chosen at least.
        top = self.tops[asked[0]]
        total = 0
        for times in range(1, same + 1):
            fewer = self.choices[asked[times:]]
            total += sum([top[at] * fewer[many - times * at] for at in range(1, many // times + 1)])
        return total // same

    def grow_once(self):
        """Tell trees of one copy more."""
        for asked in self.order:
            self.choices[asked].append(self.next_choices(asked))
        more = {kind: 0 for kind in self.tops}
        for rests in self.rests.values():
            for kind, rest in rests:
                more[kind] += self.choices[rest][-1]
        for kind, many in more.items():
            self.tops[kind].append(many)

    def closed_trees(self, many):
        """The number of closed trees of so many copies.

        It is the number of trees with a marked copy, less those with a marked link, but for those where this can be
        turned around: in each tree the copies that are not alike are one more than such links that are not alike.
        """
        total = sum([self.choices[asked][many - 1] for asked in self.wholes.values()])
        for joint in self.sheet.joints():
            other = self.sheet.partner(joint)
            one, two = self.tops[joint], self.tops[other]
            pairs = sum([one[at] * two[many - at] for at in range(1, many)])
            if other == joint:
                # Pairs of unlike trees count once, those of like ones not at all.
                like = 0 if many & 1 else one[many // 2]
                pairs = (pairs - like) // 2
            total -= pairs
        return total


def tree_numbers(sheet, most):
    """The list of the numbers of different closed trees of 1, 2, .. copies, so many numbers."""
    check_sheet(sheet)
    if not is_int(most) or not 1 <= most <= MOST_NUMBERS:
        raise BadNumber("this is not an integer from 1 to 60")
    counts = Counts(sheet)
    numbers = []
    for many in range(1, most + 1):
        counts.grow_once()
        numbers.append(counts.closed_trees(many))
    return numbers
