"""Formulas compared: whether they are the same, and how many numbers must be kept for one."""

from foldparts.errors import TooWide
from foldparts.made_walks import parting_of
from foldparts.narrow import narrow_fold
from foldparts.tables import RowTable, check_formulas

_MOST_WIDTH = 3


def parting_row(first, second):
    """Return None if two formulas are the same, otherwise the first row of test items for which they differ.

    Raise OtherKinds() and TooLarge(size) as RowTable does.
    """
    check_formulas([first, second])
    return parting_of(first.walk, second.walk)


def width_of(formula):
    """Return the width of a formula."""
    return len(RowTable([formula]).frame.pairs)


def narrowest_of(formula):
    """Return the narrowest fold of a formula. Raise TooWide(width) if it would have more than three registers."""
    frame = RowTable([formula]).frame
    width = len(frame.pairs)
    if width > _MOST_WIDTH:
        raise TooWide(width)
    return narrow_fold(frame)
