"""Sums of columns, each taken a number of times from 0, exactly: found, or ruled out by weights."""

from math import gcd, lcm

# Keys of a row besides those of its columns: what stands on the right, and the factor of the goal.
RIGHT = -1
GOAL = -2


def _combined(row, pivot, column):
    """A row without a column, by a row where this is positive; the row is taken a positive number of times."""
    common = gcd(row[column], pivot[column])
    times, less = pivot[column] // common, row[column] // common
    new = {key: times * worth for key, worth in row.items()}
    for key, worth in pivot.items():
        new[key] = new.get(key, 0) - less * worth
    divisor = 0
    for worth in new.values():
        divisor = gcd(divisor, worth)
    return {key: worth // divisor for key, worth in new.items() if worth != 0}


class Tableau:
    """Rows of a sum that is wanted, each with an own column to begin with, and the goal that no such is used.

    The goal is the sum of the own columns; while a column lessens it, it takes the place of another one. Most
    sums that are wanted are 0, and then no step may lessen the goal for long. So rows are compared by all their
    own columns, too (the lexicographic rule): no choice of columns comes twice, and the steps come to an end.
    """

    def __init__(self, columns, wanted):
        self.width = len(columns)
        self.signs = [-1 if worth < 0 else 1 for worth in wanted]
        self.rows = []
        for at, worth in enumerate(wanted):
            row = {self.width + at: 1, RIGHT: abs(worth)}
            self.rows.append({key: row[key] for key in row if row[key] != 0})
        for number, column in enumerate(columns):
            for at, worth in column.items():
                self.rows[at][number] = self.signs[at] * worth
        self.basis = [self.width + at for at in range(len(wanted))]
        self.goal = {GOAL: 1}
        for row in self.rows:
            for key, worth in row.items():
                if key < self.width:
                    self.goal[key] = self.goal.get(key, 0) + worth

    def entering(self):
        """The column that lessens the goal most, or None."""
        if self.goal.get(RIGHT, 0) == 0:
            return None
        better = [(-worth, key) for key, worth in self.goal.items() if 0 <= key < self.width and worth > 0]
        return min(better)[1] if better else None

    def leaving(self, column):
        """The row whose column gives way to another one."""
        left = [at for at, row in enumerate(self.rows) if row.get(column, 0) > 0]
        key = RIGHT
        while len(left) > 1:
            left = self.least_rows(left, column, key)
            key = self.width if key == RIGHT else key + 1
        return left[0]

    def least_rows(self, rows, column, key):
        """Those of some rows that have least at a key, each for one at a column, in their order."""
        best = rows[0]
        for at in rows[1:]:
            if self.compared(at, best, column, key) < 0:
                best = at
        return [at for at in rows if self.compared(at, best, column, key) == 0]

    def compared(self, at, best, column, key):
        """Less than 0, if a row has less at a key than another one, both for one at a column; 0, if as much."""
        here, there = self.rows[at], self.rows[best]
        return here.get(key, 0) * there[column] - there.get(key, 0) * here[column]

    def bring_in(self, column):
        """Let a column take the place of another one."""
        at = self.leaving(column)
        pivot = self.rows[at]
        self.rows = [
            _combined(row, pivot, column) if place != at and column in row else row
            for place, row in enumerate(self.rows)
        ]
        self.goal = _combined(self.goal, pivot, column)
        self.basis[at] = column

    def run(self):
        """Step until no column lessens the goal."""
        column = self.entering()
        while column is not None:
            self.bring_in(column)
            column = self.entering()

    def times(self):
        """How often each column is taken, and how often the sum is reached; None, if it cannot be."""
        if self.goal.get(RIGHT, 0) != 0:
            return None
        scale = 1
        for at, column in enumerate(self.basis):
            right, own = self.rows[at].get(RIGHT, 0), self.rows[at][column]
            scale = lcm(scale, own // gcd(right, own))
        times = [0] * self.width
        for at, column in enumerate(self.basis):
            if column < self.width:
                times[column] = scale * self.rows[at].get(RIGHT, 0) // self.rows[at][column]
        return times, scale

    def ruling_weights(self):
        """Weights of the rows: the sum of none of the columns is more than 0, but that of what is wanted is."""
        scale = self.goal[GOAL]
        return [sign * (self.goal.get(self.width + at, 0) + scale) for at, sign in enumerate(self.signs)]
