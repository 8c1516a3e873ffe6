"""Pieces: the numbers that must be sent for them, and how they are joined."""

from foldparts.errors import WrongCount
from foldparts.forms import composed, dot, stepped, unit
from foldparts.frames import Frame, inverse_of
from foldparts.ratios import Ratio
from foldparts.spans import Span
from foldparts.walks import search_behind, walk_of


class Scheme:
    """What workers and boards use for a fold. It never changes.

    The table of a piece w has a row for each head u, the view of u + w: it is 1 and then, for each tail v, the
    result of u + w + v. The numbers of the piece are those in the table that are at the contexts; all others follow
    from them by linear rules.
    """

    def __init__(self, fold):
        self.fold = fold
        self.frame = Frame(walk_of(fold))
        self._sample_rows, tables = _found_samples(self.frame)
        self._spots, self._rules = _found_contexts(tables)
        self.size = len(self._spots)
        self._inverse = inverse_of(self.frame.views())

    @property
    def contexts(self):
        """A new list of the contexts."""
        return [(list(self.frame.heads[at]), list(self.frame.tails[place - 1])) for at, place in self._spots]

    @property
    def samples(self):
        """A new list of the sample pieces."""
        return [list(row) for row in self._sample_rows]

    def numbers(self, row):
        """Return the tuple of the numbers of a piece. Raise BadItem(index) of the first element that is no item."""
        self.fold.check_row(row)
        states = self.frame.states
        for item in row:
            step = self.fold.step(item)
            states = [stepped(step, state) for state in states]
        return tuple([dot(self.frame.forms[place], states[at]) for at, place in self._spots])

    def joined(self, first, second):
        """Return the numbers of a piece that consists of two pieces with these numbers. Raise WrongCount(size)."""
        # Each row of the first table is a combination of the views of the heads. With the second piece behind it, it
        # becomes the same combination of the rows of the second table.
        weights = composed(self.table(first), self._inverse)
        return self.numbers_in(composed(weights, self.table(second)))

    def outcome(self, numbers):
        """Return the result for a row with these numbers. Raise WrongCount(size)."""
        self.check_count(numbers)
        # The first context, if there is one, is that of the empty rows. Without any the result is constant.
        return numbers[0] if self.size > 0 else self.fold([])

    def check_count(self, numbers):
        """Raise WrongCount(size) unless there are as many numbers as the size."""
        if len(numbers) != self.size:
            raise WrongCount(self.size)

    def table(self, numbers):
        """Return the table that follows from the numbers. Raise WrongCount(size)."""
        self.check_count(numbers)
        known = [Ratio(1, 1), *numbers]
        return [stepped(rules, known) for rules in self._rules]

    def numbers_in(self, table):
        """Return the tuple of the numbers in a table."""
        return tuple([table[at][place] for at, place in self._spots])


def _found_samples(frame):
    """Return the list of the sample pieces and the list of their tables."""
    def table(states):
        return [frame.view(state) for state in states]

    def vector(states):
        return [Ratio(1, 1)] + [number for view in table(states) for number in view[1:]]

    length = 1 + len(frame.heads) * len(frame.tails)
    pairs = search_behind(frame.walk, frame.states, Span(length), vector)
    return [row for row, states in pairs], [table(states) for row, states in pairs]


def _found_contexts(tables):
    """Return the list of the places of the contexts in a table, and the rules for all its places.

    A place is a tuple (number of the head, place in its view). The tables are those of the sample pieces. The rule for
    a place is the list of the weights of 1 and of the numbers of the contexts in the number there.
    """
    span = Span(len(tables))
    places = [(at, place) for at, view in enumerate(tables[0]) for place in range(len(view))]
    columns = {(at, place): [table[at][place] for table in tables] for at, place in places}
    # The first place always has 1, and so it is taken before all contexts.
    taken = []
    for spot in places:
        if span.take(columns[spot]):
            taken.append(spot)
    rules = []
    for at, view in enumerate(tables[0]):
        rules.append([_rule(span, taken, (at, place), columns[(at, place)]) for place in range(len(view))])
    return taken[1:], rules


def _rule(span, taken, spot, column):
    """Return the rule for a place whose numbers in the tables of the sample pieces are the column."""
    if spot in taken:
        return unit(len(taken), taken.index(spot))
    return span.weights(column)
