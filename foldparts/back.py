"""Whether an item can be taken back by a linear rule."""

from foldparts.forms import stepped, transposed
from foldparts.frames import Frame
from foldparts.ratios import Ratio
from foldparts.spans import Span
from foldparts.walks import walk_of


def back_table(fold, item):
    """Return the table that leads from the kept numbers of u + [item] to those of u, for every row u.

    Return None if the item, which may be any value, cannot be taken back. Raise BadItem(0) if it is no item.
    """
    fold.check_row([item])
    return table_in(Frame(walk_of(fold)), fold.step(item))


def table_in(frame, step):
    """Return the table for an item with this step, or None."""
    span = Span(len(frame.forms))
    for column in transposed(frame.views_behind(step)):
        if not span.take(column):
            return None
    return tuple([tuple(span.weights(column)) for column in transposed(frame.views())[1:]])


def obstacle(fold, item):
    """Return an obstacle, a list of Ratios, or None if the item can be taken back.

    Raise BadItem(0) if item, which may be any value, is no item.
    """
    fold.check_row([item])
    return obstacle_in(Frame(walk_of(fold)), fold.step(item))


def obstacle_in(frame, step):
    """Return an obstacle for an item with this step, or None."""
    span = Span(len(frame.forms))
    for at, view in enumerate(frame.views_behind(step)):
        if not span.take(view):
            weights = [-weight for weight in span.weights(view)]
            return weights + [Ratio(1, 1)] + [Ratio(0, 1)] * (len(frame.heads) - at - 1)
    return None


def is_obstacle(fold, item, value):
    """Return True if the value, which may be any value, is an obstacle, a list of Ratios, otherwise False.

    Raise BadItem(0) if item, which may be any value, is no item.
    """
    fold.check_row([item])
    if not isinstance(value, list) or not all([isinstance(number, Ratio) for number in value]):
        return False
    zero = Ratio(0, 1)
    frame = Frame(walk_of(fold))
    if len(value) != len(frame.heads) or all([number == zero for number in value]):
        return False
    sums = stepped(transposed(frame.views_behind(fold.step(item))), value)
    return all([total == zero for total in sums])
