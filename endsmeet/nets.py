"""Nets: machines with several arrows for a sign, made machines with one arrow at most."""

from endsmeet.outdoing import outdoers
from endsmeet.refining import least
from endsmeet.tables import Numbering, Table

MOST_PLAIN = 20000
MOST_COMPARED = 1000


class Net:
    """States, with arrows of which several can leave a state with one sign.

    `starts` has the states to begin with, `moves` for each state a dict from signs to lists of states, and `finals`
    whether each state is an end.
    """

    def __init__(self):
        self.starts = []
        self.moves = []
        self.finals = []

    def new_state(self, is_end):
        """Add a state, and return its number."""
        self.moves.append({})
        self.finals.append(is_end)
        return len(self.moves) - 1

    def draw(self, state, sign, other):
        """Add an arrow."""
        self.moves[state].setdefault(sign, []).append(other)


def _steps(net, states):
    """For each sign, in ascending order, the states to which it leads from some states."""
    found = {}
    for state in states:
        for sign, others in net.moves[state].items():
            row = found.setdefault(sign, {})
            for other in others:
                row[other] = True
    return {sign: sorted(found[sign]) for sign in sorted(found)}


def _kept(states, over):
    """The states without those that another one of them outdoes."""
    if over is None:
        return tuple(states)
    mask = sum([1 << state for state in states])
    return tuple([state for state in states if over[state] & mask == 0])


def _told_apart(net, over, most):
    """The machine whose states are sets of states of a net; None if there are more than so many."""
    met = Numbering(_kept(sorted(set(net.starts)), over))
    arrows = []
    while len(arrows) < len(met.things):
        if most is not None and len(met.things) > most:
            return None
        steps = _steps(net, met.things[len(arrows)])
        arrows.append(met.numbered({sign: _kept(states, over) for sign, states in steps.items()}))
    return Table(arrows, [any([net.finals[state] for state in states]) for states in met.things])


def least_of(net):
    """The least machine for the rows of signs that a net takes."""
    found = _told_apart(net, None, MOST_PLAIN if len(net.moves) <= MOST_COMPARED else None)
    if found is None:
        # To compare the states takes long, but then far fewer sets of them can be unlike.
        found = _told_apart(net, outdoers(net), None)
    return least(found)
