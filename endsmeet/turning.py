"""Numbers of the words of machines that take the turnings of what they take."""

from endsmeet.placing import has_two_ways, turned_row


def counts_after(machine, many):
    """For each state the number of the rows of so many signs that lead to it; a dict without zeros."""
    counts = {0: 1}
    for _ in range(many):
        counts = counts_behind(machine, counts)
    return counts


def counts_behind(machine, counts):
    """For each state the number of rows that lead to it, if the rows with one sign less are told."""
    found = {}
    for state, number in counts.items():
        for other in machine.arrows[state].values():
            found[other] = found.get(other, 0) + number
    return found


def own_turnings(sheet, machine):
    """The signs of a machine that are their own turnings."""
    return [sign for sign in machine.all_signs() if not has_two_ways(sheet, sign[0])]


class Mirror:
    """The words of a machine that are their own turnings, by the states in their middles.

    Whether a row, or a row and a sign that is its own turning, with the turning of the row behind it is taken hangs
    on the state alone to which the row leads: as the machine takes the turnings of what it takes, another row that
    leads there may stand for it at either end.
    """

    def __init__(self, sheet, machine):
        signs = own_turnings(sheet, machine)
        self.even = []
        self.odd = []
        for state, row in enumerate(machine.rows_to()):
            back = turned_row(sheet, row)
            self.even.append(1 if self.leads_on(machine, back, state) else 0)
            middles = [machine.arrows[state].get(sign) for sign in signs]
            self.odd.append(len([
                middle for middle in middles if middle is not None and self.leads_on(machine, back, middle)
            ]))

    def leads_on(self, machine, row, state):
        """Whether a row leads from a state to an end."""
        last = machine.state_after(row, state)
        return last is not None and machine.finals[last]

    def number(self, counts, is_odd):
        """The number of words that are their own turnings, if the numbers of rows up to the middle are told."""
        weights = self.odd if is_odd else self.even
        return sum([number * weights[state] for state, number in counts.items()])


def taken(machine, counts):
    """The number of words, if the numbers of rows that lead to each state are told."""
    return sum([number for state, number in counts.items() if machine.finals[state]])


def number_of_chains(sheet, machine, many):
    """The number of chains with so many blocks whose words and their turnings a machine takes."""
    half = counts_after(machine, many // 2)
    own = Mirror(sheet, machine).number(half, many & 1 == 1)
    counts = half
    for _ in range(many - many // 2):
        counts = counts_behind(machine, counts)
    return (taken(machine, counts) + own) // 2
