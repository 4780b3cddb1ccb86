"""Families that are known from the pieces of their chains."""

from endsmeet.errors import BadNumber, TooLarge
from endsmeet.letting import does_let_in, pairs_of, parting_row, steps_of_pairs
from endsmeet.longest import circle_in, longest_ways, way_along
from endsmeet.loops import are_loop_rows, do_end, states_of_loops
from endsmeet.placing import is_chain
from endsmeet.words import is_int

FEWEST_SIGNS = 2
MOST_SIGNS = 12
MOST_ROWS = 500
LEFT_MARK = ("", 0)
RIGHT_MARK = ("", 1)


def _marked(machine):
    """The arrows of a machine for marked chains: one state more ahead of the start, and one behind the ends."""
    many = len(machine.arrows)
    arrows = [{sign: row[sign] for sign in row} for row in machine.arrows]
    for state, is_end in enumerate(machine.finals):
        if is_end:
            arrows[state][RIGHT_MARK] = many + 1
    return arrows + [{LEFT_MARK: 0}, {}]


def _longer(arrows, rows):
    """The rows with one sign more, each with the states to which it leads from any state."""
    found = []
    for row, states in rows:
        near = {}
        for state in states:
            for sign, other in arrows[state].items():
                others = near.setdefault(sign, {})
                others[other] = True
        found.extend([(row + [sign], list(near[sign])) for sign in near])
    return found


def pieces(family, many):
    """The list of the pieces of a family with so many signs."""
    if not is_int(many) or not FEWEST_SIGNS <= many <= MOST_SIGNS:
        raise BadNumber("the number of signs is not an integer from 2 to 12")
    if not any(family.machine.finals):
        return []
    arrows = _marked(family.machine)
    rows = [([], list(range(len(arrows))))]
    found = []
    for _ in range(many):
        found.extend([row for row, _ in rows if row and row[0] == LEFT_MARK and row[-1] == RIGHT_MARK])
        rows = _longer(arrows, rows)
        if len(rows) > MOST_ROWS:
            raise TooLarge("there are more than 500 rows of some number of signs")
    found.extend([row for row, _ in rows])
    if len(found) > MOST_ROWS:
        raise TooLarge("there are more than 500 pieces")
    return sorted(found)


def _longest_apart(machine):
    """The ways along pairs of unlike states that rows lead on as pairs, with the longest one from each pair."""
    near = steps_of_pairs(machine)
    return near, longest_ways(near)


def _least_signs(ways):
    """The least number of signs from which a family is known, if it is.

    It is known exactly if no row with one sign less leads from two states to two that are unlike: what is in front
    of such a row in one chain could stand in front of it in another one.
    """
    return FEWEST_SIGNS + max([many for many, _ in ways], default=0)


class Known:
    """The least number of signs with which pieces tell a family, and a chain that is let in with one sign less."""

    def __init__(self, signs, other):
        self.signs = signs
        self.other = None if other is None else list(other)

    def shows(self, family):
        """Whether number and chain are as described for a family."""
        _, ways = _longest_apart(family.machine)
        if None in ways or not is_int(self.signs) or self.signs != _least_signs(ways):
            return False
        if self.signs == FEWEST_SIGNS or self.other is None:
            return self.signs == FEWEST_SIGNS and self.other is None
        if not is_chain(family.sheet, self.other) or family.machine.takes(self.other):
            return False
        return does_let_in(family.machine, self.other, self.signs - 1)

    def __eq__(self, other):
        return isinstance(other, Known) and self.signs == other.signs and self.other == other.other


def _kept_by_loop(machine, loop):
    """The states that are reached from states by a loop, however often it is gone through."""
    states = list(range(len(machine.arrows)))
    many = len(states) + 1
    while len(states) < many:
        many = len(states)
        lasts = [machine.state_after(loop, state) for state in states]
        states = sorted(set([last for last in lasts if last is not None]))
    return states


class Unknown:
    """Chains that are not in a family, of which any pieces are those of the family, if the loop is in them often."""

    def __init__(self, front, loop, back):
        self.front = list(front)
        self.loop = list(loop)
        self.back = list(back)

    def shows(self, family):
        """Whether the three rows are as described for a family."""
        machine, front, loop, back = family.machine, self.front, self.loop, self.back
        if not are_loop_rows(family.sheet, (front, loop, back)):
            return False
        if not is_chain(family.sheet, front + loop + loop + back):
            return False
        if any(do_end(machine, states_of_loops(machine, front + loop, loop), back)):
            return False
        if None in states_of_loops(machine, front, loop):
            return False
        return any(do_end(machine, _kept_by_loop(machine, loop), back))

    def __eq__(self, other):
        return (
            isinstance(other, Unknown)
            and self.front == other.front
            and self.loop == other.loop
            and self.back == other.back
        )


def _known(machine, ways):
    """A Known, if the longest ways along pairs of states are told."""
    signs = _least_signs(ways)
    if signs == FEWEST_SIGNS:
        return Known(signs, None)
    number = [at for at, way in enumerate(ways) if way[0] == signs - FEWEST_SIGNS][0]
    row, last = way_along(ways, number)
    pair, last_pair = pairs_of(machine)[number], pairs_of(machine)[last]
    if machine.state_after(row, pair[0]) != last_pair[0]:
        pair = (pair[1], pair[0])
    start, back = parting_row(machine, pair, last_pair)
    return Known(signs, machine.row_to(start) + row + back)


def _unknown(machine, near, ways):
    """An Unknown, if the steps and the longest ways along pairs of states are told."""
    number, loop = circle_in(near, ways)
    pair = pairs_of(machine)[number]
    if machine.state_after(loop, pair[0]) != pair[0]:
        # The loop exchanges the two states.
        loop = loop + loop
    start, back = parting_row(machine, pair, pair)
    return Unknown(machine.row_to(start), loop, back)


def known_from(family):
    """A Known or an Unknown of a family."""
    near, ways = _longest_apart(family.machine)
    if None in ways:
        return _unknown(family.machine, near, ways)
    return _known(family.machine, ways)
