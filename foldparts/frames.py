"""The tails and the heads of what a walk tells, and what tells all rows by them."""

from foldparts.forms import dot, stepped, unit
from foldparts.ratios import Ratio
from foldparts.spans import Span
from foldparts.walks import search_ahead, search_behind


class Frame:
    """The tails and the heads of a walk whose states end with a 1.

    pairs has a tuple (number, row) for each tail, a row behind which what the walk tells under the number is kept;
    tails has these rows alone. forms has the form of 1 and then, for each tail, the form of what is told behind it;
    states has the states after the heads. The view of a state is the list of the values of the forms, so it is 1 and
    then the kept numbers of the rows that lead to the state.
    """

    def __init__(self, walk):
        self.walk = walk
        found = _found_tails(walk)
        size = len(walk.start)
        self.pairs = [pair for pair, form in found]
        self.tails = [row for number, row in self.pairs]
        self.forms = [unit(size, size - 1)] + [form for pair, form in found]
        found = _found_heads(walk, self.forms)
        self.heads = [row for row, states in found]
        self.states = [states[0] for row, states in found]

    def view(self, state):
        """Return the view of a state."""
        return stepped(self.forms, state)

    def views(self):
        """Return the list of the views of all heads."""
        return [self.view(state) for state in self.states]

    def views_behind(self, step):
        """Return the list of the views of all heads with a step behind them."""
        return [self.view(stepped(step, state)) for state in self.states]


def inverse_of(views):
    """Return the table with which the views of the heads are composed to a table of units."""
    span = Span(len(views))
    for view in views:
        span.take(view)
    return [span.weights(unit(len(views), place)) for place in range(len(views))]


def _found_tails(walk):
    """Return the list of the pairs (tail, form of what is told behind it)."""
    pairs = search_behind(walk, [walk.start], Span(len(walk.start)), lambda states: states[0])
    # All other states that come up are combinations of these.
    reached = [states[0] for row, states in pairs]

    def vector(form):
        return [dot(form, state) for state in reached]

    span = Span(len(reached))
    # A constant can be added for nothing.
    span.take([Ratio(1, 1)] * len(reached))
    return search_ahead(walk, span, vector)


def _found_heads(walk, forms):
    """Return the list of the pairs (head, list of the state after it)."""
    return search_behind(walk, [walk.start], Span(len(forms)), lambda states: stepped(forms, states[0]))
