"""Rows of integers, and what is 0 with each of them."""

from math import gcd, lcm


class Rows:
    """Rows of one length, of which just those are kept that do not follow from others."""

    def __init__(self, width):
        self.width = width
        # Pairs of a column and a row: in this column all other kept rows are 0.
        self.kept = []

    def rank(self):
        """How many rows do not follow from others."""
        return len(self.kept)

    def first(self):
        """The first of the kept rows."""
        return self.kept[0][1]

    def add(self, row):
        """One row more."""
        if len(self.kept) == self.width:
            return
        rest = list(row)
        for column, other in self.kept:
            rest = _cleared(rest, column, other)
        columns = [at for at in range(self.width) if rest[at] != 0]
        if columns:
            kept = [(column, _cleared(other, columns[0], rest)) for column, other in self.kept]
            self.kept = kept + [(columns[0], lowered(rest))]

    def relation(self):
        """What is 0 in sum with each row, if just one row is lacking to the width.

        The integers have no common divisor, the first that is not 0 is above 0.
        """
        pivots = {column: row for column, row in self.kept}
        open_column = [at for at in range(self.width) if at not in pivots][0]
        whole = 1
        for column, row in self.kept:
            whole = lcm(whole, row[column])
        found = [0] * self.width
        found[open_column] = whole
        for column, row in self.kept:
            found[column] = -row[open_column] * (whole // row[column])
        return lowered(found)


def lowered(row):
    """The row without common divisors, the first integer that is not 0 being above 0."""
    common = 0
    for k in row:
        common = gcd(common, k)
    first = [k for k in row if k != 0][:1]
    if first and first[0] < 0:
        common = -common
    return [k // common for k in row] if common != 0 else list(row)


def _cleared(row, column, other):
    """The row with 0 in the column, by multiples of itself and of the other one."""
    if row[column] == 0:
        return row
    return lowered([k * other[column] - row[column] * m for k, m in zip(row, other)])
