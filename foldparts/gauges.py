"""Gauges: the values of some formulas for a row that grows, and that can be taken back to marks."""

from foldparts.checks import copied, is_integer
from foldparts.errors import UnknownMark


class Gauge:
    """A gauge of a table, at first for the empty row."""

    def __init__(self, table):
        self._table = table
        self._row = []
        self._state = table.state_after([])
        # For each mark, how many items the row had when it was set, and the state after them.
        self._marks = []

    def __len__(self):
        return len(self._row)

    def so_far(self):
        """Return a new list of the items of the row."""
        return copied(self._row)

    def told(self):
        """Return the list of the values of all formulas for the row."""
        return self._table.told_in(self._state)

    def weights(self):
        """Return the tuple of the weights of the row."""
        return self._table.weights_in(self._state)

    def push(self, item):
        """Push an item behind the row. Raise BadItem(0) if there are formulas."""
        self.push_row([item])

    def push_row(self, row):
        """Push all items of a row. Raise BadItem(index) if there are formulas."""
        self._state = self._table.state_behind(self._state, row)
        self._row.extend(copied(row))

    def told_after(self, row):
        """Return the list of the values of all formulas for the row and then this one. Raise BadItem(index)."""
        return self._table.told_in(self._table.state_behind(self._state, row))

    def mark(self):
        """Set a mark and return its number."""
        self._marks.append((len(self._row), self._state))
        return len(self._marks) - 1

    def back(self, number):
        """Go back to a mark. Raise UnknownMark(number) if number, which may be any value, is not that of a mark."""
        if not is_integer(number) or not 0 <= number < len(self._marks):
            raise UnknownMark(copied(number))
        many, state = self._marks[number]
        # The row has only grown since the mark was set, as otherwise the mark would have ended.
        del self._row[many:]
        del self._marks[number + 1:]
        self._state = state

    def fork(self):
        """Return a new gauge of the table with the same row and without marks."""
        other = Gauge(self._table)
        other._row = list(self._row)
        other._state = self._state
        return other

    def parted(self, other):
        """Return None if the gauges, both of one table, cannot be told apart, otherwise the first tail that does."""
        kept, others = self._table.kept_in(self._state), self._table.kept_in(other._state)
        for pair, one, another in zip(self._table.tail_pairs(), kept, others):
            if one != another:
                return pair
        return None
