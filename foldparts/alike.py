"""Whether two folds are the same."""

from foldparts.checks import have_same_kinds
from foldparts.errors import OtherKinds
from foldparts.made_walks import parting_of
from foldparts.walks import walk_of


def difference(first, second):
    """Return None if two folds are the same, otherwise a row for which the results differ.

    The row has at most six test items. Raise OtherKinds if the folds do not have the same kinds.
    """
    if not have_same_kinds(first.kinds, second.kinds):
        raise OtherKinds()
    return parting_of(walk_of(first), walk_of(second))
