"""How many numbers must be kept for a fold, and which ones."""

from foldparts.frames import Frame
from foldparts.narrow import narrow_fold
from foldparts.walks import walk_of


def tails(fold):
    """Return the list of the tails."""
    return Frame(walk_of(fold)).tails


def heads(fold):
    """Return the list of the heads."""
    return Frame(walk_of(fold)).heads


def kept(fold, row):
    """Return the tuple of the kept numbers of a row. Raise BadItem(index) of the first element that is no item."""
    state = fold.state_after(row)
    return tuple(Frame(walk_of(fold)).view(state)[1:])


def narrowest(fold):
    """Return the fold with as few registers as possible, which are the kept numbers."""
    return narrow_fold(Frame(walk_of(fold)))
