"""Rows of whole numbers: which come of others, and what can be made of them."""

from math import gcd


def primitive(row):
    """Give a row divided by the greatest common divisor of its numbers, its first one but 0 being above 0."""
    divisor = 0
    for one in row:
        divisor = gcd(divisor, one)
    heads = [one for one in row if one != 0]
    if heads and heads[0] < 0:
        divisor = -divisor
    return [one // divisor for one in row] if heads else list(row)


def head_of(row):
    """Give the index of the first number that is not 0."""
    return [at for at, one in enumerate(row) if one != 0][0]


def without(row, other, at):
    """Give a multiple of a row less one of another row, such that it has 0 at an index."""
    if row[at] == 0:
        return row
    return primitive([other[at] * mine - row[at] * its for mine, its in zip(row, other)])


class Echelon:
    """Rows none of which comes of the others, by the indexes of their heads."""

    def __init__(self):
        self.rows = {}

    def left_of(self, row):
        """Give what is left of a row without what comes of the rows that are known."""
        for at in sorted(self.rows):
            row = without(row, self.rows[at], at)
        return row

    def takes(self, row):
        """Take a row unless it comes of those that are known; tell whether it did not."""
        left = primitive(self.left_of(list(row)))
        if not any([one != 0 for one in left]):
            return False
        self.rows[head_of(left)] = left
        return True

    def reduced(self):
        """List the rows in the one form in which at the head of each all other ones have 0."""
        found = []
        for at in sorted(self.rows, reverse=True):
            row = self.rows[at]
            for other in found:
                row = without(row, other, head_of(other))
            found.append(primitive(row))
        return found[::-1]


def orthogonal(rows, many):
    """List, reduced, the rows of so many numbers whose sums of products with each of these rows are 0."""
    echelon = Echelon()
    for row in rows:
        echelon.takes(row)
    reduced = {head_of(row): row for row in echelon.reduced()}
    whole = 1
    for at in reduced:
        whole = whole * reduced[at][at] // gcd(whole, reduced[at][at])
    found = Echelon()
    for free in range(many):
        if free not in reduced:
            row = [0] * many
            row[free] = whole
            for at in reduced:
                row[at] = -reduced[at][free] * whole // reduced[at][at]
            found.takes(row)
    return found.reduced()


def tableau_for(counts, count):
    """Give the tableau for a mix of other counts that is at most one of them; None if there are no others."""
    others = [one for one in counts if one != count]
    return Tableau([[its - mine for its, mine in zip(other, count)] for other in others]) if others else None


class Tableau:
    """Looks for numbers from 0 on, not all 0, by which rows add up to at most 0 everywhere.

    columns has one column for each row, with its numbers; behind them come the slacks. All numbers are to be
    divided by whole. basis tells which column each line stands for.
    """

    def __init__(self, rows):
        many = len(rows[0])
        self.rows = len(rows)
        self.lines = [[row[at] for row in rows] + [0] * many for at in range(many)]
        for at in range(many):
            self.lines[at][self.rows + at] = 1
        self.goal = [-1] * self.rows + [0] * many
        self.basis = [self.rows + at for at in range(many)]
        self.whole = 1

    def mix(self):
        """Give such numbers, None if there are none."""
        while True:
            entering = [at for at, one in enumerate(self.goal) if one < 0][:1]
            if not entering:
                return None
            # The least column of those that may leave is taken, as otherwise this might go on for ever.
            leaving = [(self.basis[k], k) for k, line in enumerate(self.lines) if line[entering[0]] > 0]
            if not leaving:
                return self._mix_along(entering[0])
            self._pivot(min(leaving)[1], entering[0])

    def _pivot(self, k, column):
        turned = self.lines[k]
        by = turned[column]
        others = [self._turned(line, turned, column) for line in self.lines]
        self.goal = self._turned(self.goal, turned, column)
        self.lines = others
        self.lines[k] = turned
        self.basis[k] = column
        self.whole = by

    def _turned(self, line, turned, column):
        by, times = turned[column], line[column]
        return [(one * by - times * other) // self.whole for one, other in zip(line, turned)]

    def _mix_along(self, column):
        """Give the numbers by which the sum grows for ever as a column enters."""
        found = [0] * (self.rows + len(self.lines))
        found[column] = self.whole
        for k, at in enumerate(self.basis):
            found[at] = -self.lines[k][column]
        return primitive(found[:self.rows])

    def prices(self):
        """Give numbers from 0 on by which each row, where there is no mix, has a sum above 0."""
        return primitive(self.goal[self.rows:])
