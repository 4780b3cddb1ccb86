"""Rows with a loop in them, which can be gone through as often as one likes."""

from endsmeet.placing import is_placed


def are_loop_rows(sheet, parts):
    """Whether three values are lists of placed blocks, the second one not empty."""
    for part in parts:
        if not isinstance(part, list) or not all([is_placed(sheet, placed) for placed in part]):
            return False
    return len(parts[1]) > 0


def states_of_loops(machine, front, loop):
    """The states of a machine behind a row and a loop, as often as one likes, each of them once; the last one is None
    if the machine stops."""
    found = {}
    state = machine.state_after(front)
    while state not in found:
        found[state] = True
        if state is not None:
            state = machine.state_after(loop, state)
    return list(found)


def do_end(machine, states, back):
    """For each of some states, or None, whether a row leads from it to an end."""
    lasts = [None if state is None else machine.state_after(back, state) for state in states]
    return [last is not None and machine.finals[last] for last in lasts]
