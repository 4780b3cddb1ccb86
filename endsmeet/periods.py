"""Rows of answers, one for each number, that repeat themselves in the end."""


class Repeats:
    """Finds the first two of some things, told one after the other, such that several from each on are alike."""

    def __init__(self, width):
        self.width = width
        self.numbers = {}
        self.told = []
        self.windows = {}

    def tell(self, thing):
        """Tell the next thing; the earlier and the later place, if things from them on are alike, otherwise None."""
        if thing not in self.numbers:
            self.numbers[thing] = len(self.numbers)
        self.told.append(self.numbers[thing])
        place = len(self.told) - self.width
        if place < 0:
            return None
        window = tuple(self.told[place:])
        if window in self.windows:
            return self.windows[window], place
        self.windows[window] = place
        return None


def divisors(number):
    """The ascending list of the numbers that divide one."""
    return [part for part in range(1, number + 1) if number % part == 0]
