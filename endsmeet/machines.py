"""Machines that walk along the words of recipes."""

from endsmeet.placing import turned_block


class Part:
    """The walks of a part of a recipe: where they begin and end, and whether there is one without any spot."""

    def __init__(self, firsts, lasts, is_skipped):
        self.firsts = firsts
        self.lasts = lasts
        self.is_skipped = is_skipped


class Walks:
    """The rows of the words of a recipe, as walks along spots.

    `placed` has the placed block of each text place. A spot stands for a text place; what is taken several times has
    spots of its own for each time. `places` has the text place of each spot, and `after` a dict of the spots that can
    come next. A walk begins at one of the first spots, and ends at one of the last ones.
    """

    def __init__(self, sheet, recipe):
        self.sheet = sheet
        self.placed = []
        self.places = []
        self.after = []
        whole = self.spread(self.with_places(recipe, False))
        self.firsts = whole.firsts
        self.lasts = whole.lasts
        self.is_skipped = whole.is_skipped

    def with_places(self, recipe, is_turned):
        """A recipe with its text places instead of blocks; what is turned is told in the order of its words."""
        form = recipe[0]
        if form == "block":
            placed = recipe[1:]
            self.placed.append(turned_block(self.sheet, placed) if is_turned else placed)
            return "place", len(self.placed) - 1
        if form == "turned":
            return self.with_places(recipe[1], not is_turned)
        if form == "times":
            return "times", self.with_places(recipe[1], is_turned), recipe[2], recipe[3]
        parts = [self.with_places(part, is_turned) for part in recipe[1]]
        return form, parts[::-1] if form == "row" and is_turned else parts

    def spread(self, told):
        """Make the spots of a recipe with its text places; its part."""
        form = told[0]
        if form == "place":
            self.places.append(told[1])
            self.after.append({})
            spot = len(self.places) - 1
            return Part([spot], [spot], False)
        if form == "row":
            return self.in_row([self.spread(part) for part in told[1]])
        if form == "times":
            return self.in_row(self.repeated(told[1], told[2], told[3]))
        parts = [self.spread(part) for part in told[1]]
        return Part(
            [spot for part in parts for spot in part.firsts],
            [spot for part in parts for spot in part.lasts],
            any([part.is_skipped for part in parts]),
        )

    def repeated(self, told, low, high):
        """A part for each time that a recipe is taken; those beyond the least number of times can be skipped."""
        parts = [self.spread(told) for _ in range(low + 1 if high is None else high)]
        if high is None:
            self.lead(parts[-1].lasts, parts[-1].firsts)
        return parts[:low] + [Part(part.firsts, part.lasts, True) for part in parts[low:]]

    def in_row(self, parts):
        """The part that is made of some, one behind the other."""
        firsts, lasts, is_skipped = [], [], True
        for part in parts:
            self.lead(lasts, part.firsts)
            if is_skipped:
                firsts = firsts + part.firsts
            lasts = lasts + part.lasts if part.is_skipped else part.lasts
            is_skipped = is_skipped and part.is_skipped
        return Part(firsts, lasts, is_skipped)

    def lead(self, spots, others):
        """Let the second ones of two lists of spots come next to the first ones."""
        for spot in spots:
            for other in others:
                self.after[spot][other] = True

    def before(self):
        """For each spot the list of the spots to which it can come next."""
        found = [[] for _ in self.places]
        for spot, others in enumerate(self.after):
            for other in others:
                found[other].append(spot)
        return found


def shortest_walks(starts, near):
    """For each spot that can be reached from some: the number of spots up to it, and the one before it."""
    lengths = {spot: 1 for spot in starts}
    previous = {spot: None for spot in starts}
    waiting = list(lengths)
    at = 0
    while at < len(waiting):
        spot = waiting[at]
        for other in near[spot]:
            if other not in lengths:
                lengths[other] = lengths[spot] + 1
                previous[other] = spot
                waiting.append(other)
        at += 1
    return lengths, previous
