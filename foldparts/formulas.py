"""Formulas: values for rows that are made of the results of folds."""

from foldparts.checks import check_row, have_same_kinds
from foldparts.errors import OtherKinds, TooLarge, UnknownKind
from foldparts.fits import shares
from foldparts.forms import dot
from foldparts.made_walks import (
    mirrored_walk, running_walk, scaled_walk, summed_walk, walk_ahead, walk_behind, walk_of_only,
)
from foldparts.ratios import Ratio
from foldparts.walks import Walk, walk_of, walked

_MOST_SIZE = 8


class Formula:
    """A formula. It never changes.

    fold is a fold or, for a formula that is made of others, the walk that tells its value.
    """

    def __init__(self, fold):
        self.walk = fold if isinstance(fold, Walk) else walk_of(fold)
        self.name = self.walk.name
        self.kinds = self.walk.kinds
        # The states of the walk have as many numbers as point 24 tells: those of a fold have a 1 behind the registers.
        self.size = len(self.walk.start)

    def __call__(self, row):
        """Return the value for a row. Raise BadItem(index) of the first element that is no item."""
        check_row(self.kinds, row)
        return dot(self.walk.finals[0], walked(self.walk, self.walk.start, row))

    def __add__(self, other):
        if not have_same_kinds(self.kinds, other.kinds):
            raise OtherKinds()
        _check_size(self.size + other.size)
        return Formula(summed_walk(self.walk, other.walk))

    def __sub__(self, other):
        return self + -other

    def __neg__(self):
        return self * Ratio(-1, 1)

    def __mul__(self, other):
        return Formula(scaled_walk(self.walk, other))

    def mirrored(self):
        """Return the formula with the value for the row read from behind."""
        return Formula(mirrored_walk(self.walk))

    def running(self):
        """Return the formula that adds up the values for row[:0], row[:1], .. and row. Raise TooLarge(size)."""
        _check_size(self.size + 1)
        return Formula(running_walk(self.walk))

    def summed(self):
        """Return the formula that adds up the values for all row[i:j], i <= j. Raise TooLarge(size)."""
        _check_size(self.size + 2)
        # Here the values for the pieces at the end of a row are added up first, and then these sums for all its fronts.
        ends = mirrored_walk(running_walk(mirrored_walk(self.walk)))
        return Formula(running_walk(ends))

    def ahead(self, front):
        """Return the formula with the value for front + row. Raise BadItem(index)."""
        check_row(self.kinds, front)
        return Formula(walk_ahead(self.walk, front))

    def behind(self, back):
        """Return the formula with the value for row + back. Raise BadItem(index)."""
        check_row(self.kinds, back)
        return Formula(walk_behind(self.walk, back))

    def only(self, names):
        """Return the formula with the value for the row without the items of other kinds than those with these names.

        Raise UnknownKind(name) of the first name that no kind has.
        """
        known = [name for name, fields in self.kinds]
        for name in names:
            if name not in known:
                raise UnknownKind(name)
        return Formula(walk_of_only(self.walk, names))


def _check_size(size):
    """Raise TooLarge(size) if a formula may not have this size."""
    if size > _MOST_SIZE:
        raise TooLarge(size)


def item_weights(kinds, item):
    """Return the list of the item weights of an item for the test items of its kind, in order.

    The values of an item tell all that is needed of its kind.
    """
    kind, values = item
    return shares(values)
