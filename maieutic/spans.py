"""Rows of integers that do not depend on each other."""

from math import gcd


class Span:
    """Rows of integers of which none is a sum of multiples of the other ones."""

    def __init__(self):
        # Each row stands under the place of its first number that is not 0.
        self._kept = {}

    def take(self, row):
        """Add the row and return True; return False if it depends on the rows that are there."""
        left = row
        for place in range(len(row)):
            if left[place] != 0:
                if place not in self._kept:
                    self._kept[place] = _shortened(left)
                    return True
                left = _cleared(left, self._kept[place], place)
        return False


def product_sum(first, second):
    """Return the sum of the products of the integers at the same places."""
    return sum([one * two for one, two in zip(first, second)])


def _cleared(left, row, place):
    """Return a multiple of the row left, less a multiple of the other row, that is 0 at the place."""
    return _shortened([one * row[place] - two * left[place] for one, two in zip(left, row)])


def _shortened(row):
    """Return the row divided by the greatest common divisor of its numbers."""
    common = 0
    for number in row:
        common = gcd(common, number)
    if common < 2:
        return row
    return [number // common for number in row]
