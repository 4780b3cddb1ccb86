"""States of nets that do whatever others do."""

from endsmeet.machines import shortest_walks


def bits_of(mask):
    """The ascending list of the numbers whose bits are set."""
    found = []
    while mask:
        low = mask & -mask
        found.append(low.bit_length() - 1)
        mask -= low
    return found


def _sources(net):
    """For each state a dict from signs to the bits of the states from which they lead to it."""
    found = [{} for _ in net.moves]
    for state, row in enumerate(net.moves):
        for sign, others in row.items():
            for other in others:
                found[other][sign] = found[other].get(sign, 0) | 1 << state
    return found


def _first_guess(net):
    """For each state the bits of those that have all its signs, and are ends if it is one."""
    holders = {}
    ends = 0
    for state, row in enumerate(net.moves):
        for sign in row:
            holders[sign] = holders.get(sign, 0) | 1 << state
        if net.finals[state]:
            ends |= 1 << state
    found = []
    for state, row in enumerate(net.moves):
        mask = ends if net.finals[state] else (1 << len(net.moves)) - 1
        for sign in row:
            mask &= holders[sign]
        found.append(mask)
    return found


def _ends_last(net, sources):
    """The list of all states, those last from which few arrows lead to an end."""
    near = [[source for mask in row.values() for source in bits_of(mask)] for row in sources]
    lengths, _ = shortest_walks([state for state, is_end in enumerate(net.finals) if is_end], near)
    return [state for state in range(len(near)) if state not in lengths] + list(lengths)[::-1]


def _doing_as_much(net):
    """For each state the bits of those that can do step by step what it does."""
    sources = _sources(net)
    found = _first_guess(net)
    # What is known of a state hangs on those that come next to it, so that those near the ends come first.
    waiting = _ends_last(net, sources)
    is_waiting = [True for _ in found]
    while waiting:
        state = waiting.pop()
        is_waiting[state] = False
        near = {}
        for other in bits_of(found[state]):
            for sign, mask in sources[other].items():
                near[sign] = near.get(sign, 0) | mask
        for sign, mask in sources[state].items():
            for source in bits_of(mask):
                if found[source] & ~near[sign]:
                    found[source] &= near[sign]
                    if not is_waiting[source]:
                        is_waiting[source] = True
                        waiting.append(source)
    return found


def outdoers(net):
    """For each state the bits of those beside which it is not needed; of some that do the same, the first is kept."""
    found = _doing_as_much(net)
    over = []
    for state, mask in enumerate(found):
        over.append(sum([
            1 << other for other in bits_of(mask) if other < state or other > state and not found[other] >> state & 1
        ]))
    return over
