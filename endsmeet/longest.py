"""Longest ways along some of the arrows of machines, and circles of them."""


def longest_ways(near):
    """For each state the longest way from it, as a pair of its number of steps and the first one of them, or None.

    `near` has for each state a list of steps, each a pair of a sign and a state. States from which ways can go on
    for ever have None themselves.
    """
    # How many steps of each state lead to states whose longest ways are not known.
    unknown = [len(steps) for steps in near]
    into = [[] for _ in near]
    for state, steps in enumerate(near):
        for step in steps:
            into[step[1]].append(state)
    found = [None for _ in near]
    waiting = [state for state, number in enumerate(unknown) if number == 0]
    while waiting:
        state = waiting.pop()
        best = (0, None)
        for step in near[state]:
            if found[step[1]][0] >= best[0]:
                best = (found[step[1]][0] + 1, step)
        found[state] = best
        for other in into[state]:
            unknown[other] -= 1
            if unknown[other] == 0:
                waiting.append(other)
    return found


def way_along(ways, state):
    """The signs of the longest way from a state, and the state where it ends."""
    row = []
    step = ways[state][1]
    while step is not None:
        row.append(step[0])
        state = step[1]
        step = ways[state][1]
    return row, state


def circle_in(near, ways):
    """A state and the signs of a way from it to itself; the longest ways must tell that there is one."""
    state = ways.index(None)
    places = {}
    row = []
    while state not in places:
        places[state] = len(row)
        sign, state = [step for step in near[state] if ways[step[1]] is None][0]
        row.append(sign)
    return state, row[places[state]:]
