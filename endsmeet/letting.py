"""Which chains are let in by the pieces of a family."""

from endsmeet.pairing import PARTING, Pairs


def pairs_of(machine):
    """The list of the pairs of unlike states of a machine, the lesser one first."""
    return [(state, other) for other in range(len(machine.arrows)) for state in range(other)]


def steps_of_pairs(machine):
    """For each pair of unlike states, as they are listed, the steps to others: pairs of a sign and a number in the
    list."""
    found = []
    for state, other in pairs_of(machine):
        row, other_row = machine.arrows[state], machine.arrows[other]
        steps = []
        for sign, near in row.items():
            there = other_row.get(sign)
            if there is not None and there != near:
                low, high = min(near, there), max(near, there)
                steps.append((sign, high * (high - 1) // 2 + low))
        found.append(steps)
    return found


def parting_row(machine, pair, last_pair):
    """One of a pair of states, and a row that leads to no end from the one to which that one came, but leads to an
    end from the other one."""
    row = Pairs(machine, machine, PARTING).first_row(last_pair)
    last = machine.state_after(row, last_pair[0])
    is_taken_there = last is not None and machine.finals[last]
    return pair[1] if is_taken_there else pair[0], row


def _steps_by_sign(machine):
    """For each sign the list of the pairs of states between which its arrows lead."""
    found = {}
    for state, row in enumerate(machine.arrows):
        for sign, other in row.items():
            found.setdefault(sign, []).append((state, other))
    return found


def _longest_reads(machine, chain):
    """For each position in a chain how many signs of it from there on lead anywhere, from some state; and the states
    from which they lead to an end."""
    steps = _steps_by_sign(machine)
    reads = {state: 0 for state in range(len(machine.arrows))}
    enders = {state: True for state, is_end in enumerate(machine.finals) if is_end}
    longest, endings = [], []
    for sign in chain[::-1]:
        told = steps.get(sign, [])
        reads = {state: reads.get(other, 0) + 1 for state, other in told}
        enders = {state: True for state, other in told if other in enders}
        longest.append(max(list(reads.values()), default=0))
        endings.append(list(enders))
    return longest[::-1], endings[::-1]


def does_let_in(machine, chain, many):
    """Whether a chain is let in by the pieces with so many signs of the chains that a machine takes."""
    length = len(chain)
    if length + 2 <= many:
        return machine.takes(chain)
    if machine.state_after(chain[:many - 1]) is None:
        return False
    longest, endings = _longest_reads(machine, chain)
    if not all([longest[at] >= many for at in range(length - many + 1)]):
        return False
    return len(endings[length - many + 1]) > 0
