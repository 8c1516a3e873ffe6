"""Whether two folds are the same."""

from foldparts.errors import OtherKinds
from foldparts.forms import dot
from foldparts.ratios import Ratio
from foldparts.spans import Span
from foldparts.walks import Walk, search_behind, walk_of


def difference(first, second):
    """Return None if two folds are the same, otherwise a row for which the results differ.

    The row has at most six test items. Raise OtherKinds if the folds do not have the same kinds.
    """
    if _shape(first) != _shape(second):
        raise OtherKinds()
    walk = _difference_walk(walk_of(first), walk_of(second))
    span = Span(len(walk.start))
    # If no row that is found shows a difference, no row does: its state is a combination of those of the found ones.
    for row, states in search_behind(walk, [walk.start], span, lambda states: states[0]):
        if dot(walk.final, states[0]) != Ratio(0, 1):
            return row
    return None


def _shape(fold):
    """Return what folds of the same kinds have in common."""
    return [(name, len(fields)) for name, fields in fold.kinds]


def _difference_walk(first, second):
    """Return the walk of both at once. Its result is that of the first one minus that of the second one."""
    left = [Ratio(0, 1)] * len(first.start)
    right = [Ratio(0, 1)] * len(second.start)
    steps = []
    for (item, step), (_, other) in zip(first.steps, second.steps):
        steps.append((item, [form + right for form in step] + [left + form for form in other]))
    return Walk(first.start + second.start, steps, first.final + [-factor for factor in second.final])
