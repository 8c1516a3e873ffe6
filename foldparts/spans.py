"""Which vectors are combinations of others. A vector is a list of Ratios."""

from math import lcm

from foldparts.ratios import Ratio


class Span:
    """Vectors of one length, taken one after the other: none is a combination of those before it.

    Combinations are found by elimination with integers. Each division in it is exact (Bareiss), so the numbers grow
    no further than the determinants of the vectors, and nothing has to be brought into lowest terms on the way.
    """

    def __init__(self, length):
        self._length = length
        # For each taken vector, the place of a number other than 0 in its row, and its row: what the elimination
        # leaves of the vector, and then the weights of the taken vectors in that.
        self._rows = []
        # For each taken vector, the integer that makes integers of it.
        self._scales = []

    def is_full(self):
        """Return True if every vector is a combination of the taken ones, otherwise False."""
        return len(self._rows) == self._length

    def take(self, vector):
        """Take the vector and return True, or return False if it is a combination of the taken ones."""
        scale = _common_bottom(vector)
        row = self._eliminated(vector, scale)
        for place in range(self._length):
            if row[place] != 0:
                self._rows.append((place, row))
                self._scales.append(scale)
                return True
        return False

    def weights(self, vector):
        """Return the list of the weights of the taken vectors in the vector, None if it is no combination of them."""
        scale = _common_bottom(vector)
        row = self._eliminated(vector, scale)
        if any([number != 0 for number in row[:self._length]]):
            return None
        # The weights in the row make 0: those of the taken vectors, and behind them that of the vector itself.
        made = row[self._length:]
        own = made[len(self._rows)] * scale
        return [Ratio(-weight * other, own) for weight, other in zip(made, self._scales)]

    def _eliminated(self, vector, scale):
        """Return the row of a vector that is multiplied with the scale."""
        row = [number.top * (scale // number.bottom) for number in vector]
        row.extend([1 if at == len(self._rows) else 0 for at in range(self._length + 1)])
        before = 1
        for place, other in self._rows:
            pivot, factor = other[place], row[place]
            row = [(pivot * number - factor * less) // before for number, less in zip(row, other)]
            before = pivot
        return row


def _common_bottom(vector):
    """Return the least positive integer by which the vector becomes one of integers."""
    common = 1
    for number in vector:
        common = lcm(common, number.bottom)
    return common
