"""The longest runs of some blocks in the chains of families."""

from endsmeet.linear import check_linear_names
from endsmeet.longest import circle_in, longest_ways, way_along
from endsmeet.loops import are_loop_rows, do_end, states_of_loops
from endsmeet.placing import is_chain
from endsmeet.words import is_int


def _steps_with(machine, names):
    """For each state of a machine the steps along arrows with some blocks."""
    return [[(sign, other) for sign, other in row.items() if sign[0] in names] for row in machine.arrows]


def _longest_run(row, names):
    """The greatest number of blocks with some names that stand next to one another."""
    most, now = 0, 0
    for name, _ in row:
        now = now + 1 if name in names else 0
        most = max(most, now)
    return most


class Longest:
    """The greatest number of blocks next to one another that have some names, and a chain with such a run."""

    def __init__(self, most, chain):
        self.most = most
        self.chain = None if chain is None else list(chain)

    def shows(self, family, names):
        """Whether number and chain are as described for a family and names."""
        check_linear_names(family.sheet, names)
        ways = longest_ways(_steps_with(family.machine, names))
        if None in ways or not is_int(self.most) or self.most != max([many for many, _ in ways]):
            return False
        if self.chain is None:
            return not any(family.machine.finals)
        if not is_chain(family.sheet, self.chain) or not family.machine.takes(self.chain):
            return False
        return _longest_run(self.chain, names) == self.most

    def __eq__(self, other):
        return isinstance(other, Longest) and self.most == other.most and self.chain == other.chain


class Unending:
    """A chain with a loop of blocks with some names, which can be gone through as often as one likes."""

    def __init__(self, front, loop, back):
        self.front = list(front)
        self.loop = list(loop)
        self.back = list(back)

    def shows(self, family, names):
        """Whether the three rows are as described for a family and names."""
        check_linear_names(family.sheet, names)
        if not are_loop_rows(family.sheet, (self.front, self.loop, self.back)):
            return False
        if not all([name in names for name, _ in self.loop]):
            return False
        states = states_of_loops(family.machine, self.front, self.loop)
        return all(do_end(family.machine, states, self.back))

    def __eq__(self, other):
        return (
            isinstance(other, Unending)
            and self.front == other.front
            and self.loop == other.loop
            and self.back == other.back
        )


def longest_run(family, names):
    """A Longest or an Unending of a family and names."""
    check_linear_names(family.sheet, names)
    machine = family.machine
    if not any(machine.finals):
        return Longest(0, None)
    near = _steps_with(machine, names)
    ways = longest_ways(near)
    if None in ways:
        state, loop = circle_in(near, ways)
        return Unending(machine.row_to(state), loop, machine.row_on(state))
    most = max([many for many, _ in ways])
    state = [at for at, way in enumerate(ways) if way[0] == most][0]
    run, last = way_along(ways, state)
    return Longest(most, machine.row_to(state) + run + machine.row_on(last))
