"""Neighbours in the words of a recipe that do not fit."""

from endsmeet.errors import Misfitting
from endsmeet.machines import Walks, shortest_walks
from endsmeet.placing import fits, is_placed
from endsmeet.recipes import check_recipe
from endsmeet.words import is_int


def first_misfit(sheet, walks):
    """The first pair of text places that are neighbours and do not fit, or None."""
    pairs = {}
    for spot, others in enumerate(walks.after):
        for other in others:
            pairs[(walks.places[spot], walks.places[other])] = True
    for pair in sorted(list(pairs)):
        if not fits(sheet, walks.placed[pair[0]], walks.placed[pair[1]]):
            return pair
    return None


def _trail(previous, spot):
    """The spots from one on to where a shortest walk to it began."""
    found = []
    while spot is not None:
        found.append(spot)
        spot = previous[spot]
    return found


def _shortest_row(walks, pair):
    """The spots of a shortest walk along two neighbours, and the position of the first one of these."""
    lengths, previous = shortest_walks(walks.firsts, walks.after)
    more, following = shortest_walks(walks.lasts, walks.before())
    steps = []
    for spot, others in enumerate(walks.after):
        if walks.places[spot] == pair[0]:
            steps.extend([
                (lengths[spot] + more[other], spot, other) for other in others if walks.places[other] == pair[1]
            ])
    _, spot, other = min(steps)
    front = _trail(previous, spot)[::-1]
    return front + _trail(following, other), len(front) - 1


def _has_row(walks, pair, told, at):
    """Whether a word has a row in which two text places stand at a position and behind it."""
    if not 0 <= at < len(told) - 1:
        return False
    wanted = {at: pair[0], at + 1: pair[1]}
    now = {spot: True for spot in walks.firsts}
    reached = []
    for position, placed in enumerate(told):
        reached = [
            spot for spot in now
            if walks.placed[walks.places[spot]] == placed
            and wanted.get(position, walks.places[spot]) == walks.places[spot]
        ]
        now = {other: True for spot in reached for other in walks.after[spot]}
    return any([spot in walks.lasts for spot in reached])


class Misfit:
    """Two text places that are neighbours and do not fit, and a shortest word in which they stand so."""

    def __init__(self, pair, told, at):
        self.pair = pair
        self.told = list(told)
        self.at = at

    def shows(self, sheet, recipe):
        """Whether pair, word and position are as described for a recipe."""
        check_recipe(sheet, recipe)
        walks = Walks(sheet, recipe)
        pair = first_misfit(sheet, walks)
        if pair is None or self.pair != pair or not is_int(self.at):
            return False
        if not isinstance(self.told, list) or not all([is_placed(sheet, placed) for placed in self.told]):
            return False
        spots, _ = _shortest_row(walks, pair)
        return len(self.told) == len(spots) and _has_row(walks, pair, self.told, self.at)

    def __eq__(self, other):
        return (
            isinstance(other, Misfit)
            and self.pair == other.pair
            and self.told == other.told
            and self.at == other.at
        )


def misfit(sheet, recipe):
    """A Misfit of a recipe, or None if all neighbours fit."""
    check_recipe(sheet, recipe)
    walks = Walks(sheet, recipe)
    pair = first_misfit(sheet, walks)
    if pair is None:
        return None
    spots, at = _shortest_row(walks, pair)
    return Misfit(pair, [walks.placed[walks.places[spot]] for spot in spots], at)


def fitting_walks(sheet, recipe):
    """The walks of a recipe; BadSheet, BadRecipe or Misfitting, if it is none of a sheet, or has misfits."""
    check_recipe(sheet, recipe)
    walks = Walks(sheet, recipe)
    if first_misfit(sheet, walks) is not None:
        raise Misfitting("the recipe has neighbours that do not fit")
    return walks
