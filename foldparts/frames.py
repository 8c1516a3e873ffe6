"""The tails and the heads of a fold, and what tells all rows by them."""

from foldparts.forms import dot, stepped, unit
from foldparts.ratios import Ratio
from foldparts.spans import Span
from foldparts.walks import search_ahead, search_behind, walk_of


class Frame:
    """The tails and the heads of a fold, with the forms of the tails and the states of the heads.

    forms has the form of 1 and then, for each tail, the form of the result after it. The view of a state is the
    list of their values, so it is 1 and then the kept numbers of the rows that lead to the state.
    """

    def __init__(self, fold):
        self.fold = fold
        self.walk = walk_of(fold)
        found = _found_tails(self.walk)
        size = len(self.walk.start)
        self.tails = [row for row, form in found]
        self.forms = [unit(size, size - 1)] + [form for row, form in found]
        pairs = _found_heads(self.walk, self.forms)
        self.heads = [row for row, states in pairs]
        self.states = [states[0] for row, states in pairs]

    def view(self, state):
        """Return the view of a state."""
        return stepped(self.forms, state)

    def views(self):
        """Return the list of the views of all heads."""
        return [self.view(state) for state in self.states]

    def views_behind(self, item):
        """Return the list of the views of all heads with this item behind them."""
        step = self.fold.step(item)
        return [self.view(stepped(step, state)) for state in self.states]


def _found_tails(walk):
    """Return the list of the pairs (tail, form of the result after it)."""
    pairs = search_behind(walk, [walk.start], Span(len(walk.start)), lambda states: states[0])
    # All other states that come up are combinations of these.
    reached = [states[0] for row, states in pairs]

    def vector(form):
        return [dot(form, state) for state in reached]

    span = Span(len(reached))
    # A constant can be added for nothing.
    span.take([Ratio(1, 1)] * len(reached))
    return search_ahead(walk, span, vector)


def _found_heads(walk, forms):
    """Return the list of the pairs (head, list of the state after it)."""
    return search_behind(walk, [walk.start], Span(len(forms)), lambda states: stepped(forms, states[0]))
