"""Tables: rows by which some formulas are told for all rows."""

from foldparts.checks import check_row, have_same_kinds
from foldparts.errors import OtherKinds, TooLarge
from foldparts.forms import stepped, transposed
from foldparts.frames import Frame, inverse_of
from foldparts.made_walks import walk_with_one, walks_together
from foldparts.walks import walked

_MOST_SIZE = 10


class RowTable:
    """A table for some formulas. It never changes."""

    def __init__(self, formulas):
        check_formulas(formulas)
        self.formulas = tuple(formulas)
        self.frame = Frame(walk_with_one(walks_together([formula.walk for formula in formulas])))
        # The numbers of a separator times those of the view of its head are 1, times those of another head 0.
        self._separators = transposed(inverse_of(self.frame.views()))

    def tail_pairs(self):
        """Return a new list of the tails, tuples (number of a formula, row)."""
        return [(number, list(row)) for number, row in self.frame.pairs]

    def head_rows(self):
        """Return a new list of the heads."""
        return [list(row) for row in self.frame.heads]

    def separators(self):
        """Return a new list of the separators of the heads, lists of Ratios."""
        return [list(separator) for separator in self._separators]

    def kept(self, row):
        """Return the tuple of the kept numbers of a row. Raise BadItem(index) if there are formulas."""
        return self.kept_in(self.state_after(row))

    def weights(self, row):
        """Return the tuple of the weights of a row. Raise BadItem(index) if there are formulas."""
        return self.weights_in(self.state_after(row))

    def state_after(self, row):
        """Return the state after a row. Raise BadItem(index) if there are formulas."""
        return self.state_behind(self.frame.walk.start, row)

    def state_behind(self, state, row):
        """Return the state to which a row leads from this state. Raise BadItem(index) if there are formulas."""
        # Without formulas any values are items, and none of them changes anything.
        if len(self.formulas) == 0:
            return state
        check_row(self.formulas[0].kinds, row)
        return walked(self.frame.walk, state, row)

    def told_in(self, state):
        """Return the list of the values of all formulas for the rows that lead to a state."""
        return stepped(self.frame.walk.finals, state)

    def kept_in(self, state):
        """Return the tuple of the kept numbers of the rows that lead to a state."""
        return tuple(self.frame.view(state)[1:])

    def weights_in(self, state):
        """Return the tuple of the weights of the rows that lead to a state."""
        return tuple(stepped(self._separators, self.frame.view(state)))


def check_formulas(formulas):
    """Raise OtherKinds() if the formulas do not have the same kinds, then TooLarge(size) if they are too large."""
    for formula in formulas:
        if not have_same_kinds(formula.kinds, formulas[0].kinds):
            raise OtherKinds()
    size = sum([formula.size for formula in formulas])
    if size > _MOST_SIZE:
        raise TooLarge(size)
