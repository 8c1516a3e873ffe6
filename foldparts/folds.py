"""Folds: what they are, and their results for rows of items."""

from foldparts.drafts import read_draft
from foldparts.errors import BadItem
from foldparts.sums import sum_value

_MOST_VALUE = 1000

# The values of the test items, by the number of fields.
_TEST_VALUES = (
    ((),),
    ((0,), (1,), (2,)),
    ((0, 0), (0, 1), (0, 2), (1, 0), (1, 1), (2, 0)),
)


class Fold:
    """A fold. It is made from its text form, and it never changes."""

    def __init__(self, text):
        draft = read_draft(text)
        self.text = text
        self.name = draft.name
        self.registers = tuple(draft.registers)
        self.kinds = tuple(draft.kinds)
        self.updates = {kind: tuple(new) for (kind, fields), new in zip(draft.kinds, draft.updates)}
        self.final = draft.final

    @classmethod
    def parse(cls, text):
        """Return the fold of a text form. Raise InvalidText(row) if the text is none."""
        return cls(text)

    def __str__(self):
        return str(self.text)

    def __eq__(self, other):
        return isinstance(other, Fold) and self.text == other.text

    def __ne__(self, other):
        return not self == other

    def __call__(self, row):
        """Return the result for a row. Raise BadItem(index) of the first element that is no item."""
        return sum_value(self.final, self.registers_after(row), ())

    def registers_after(self, row):
        """Return the tuple of the values of the registers after a row. Raise BadItem(index)."""
        values = [start for name, start in self.registers]
        for index, item in enumerate(row):
            if not self.has_item(item):
                raise BadItem(index)
            values = self._values_after(values, item)
        return tuple(values)

    def test_items(self):
        """Return a new list of the test items, in order."""
        return [(kind, values) for kind, fields in self.kinds for values in _TEST_VALUES[len(fields)]]

    def has_item(self, item):
        """Return True if item, which may be any value, is an item of the fold, otherwise False."""
        if not isinstance(item, tuple) or len(item) != 2:
            return False
        kind, values = item
        if not isinstance(values, tuple):
            return False
        many = [len(fields) for name, fields in self.kinds if name == kind]
        return many == [len(values)] and all([_is_field_value(value) for value in values])

    def _values_after(self, values, item):
        """Return the list of the new values of the registers after an item, from the old ones."""
        kind, numbers = item
        fresh = list(values)
        for at, terms in self.updates[kind]:
            fresh[at] = sum_value(terms, values, numbers)
        return fresh


def _is_field_value(value):
    """Return True if the value, which may be any value, can stand in an item, otherwise False."""
    return isinstance(value, int) and not isinstance(value, bool) and -_MOST_VALUE <= value <= _MOST_VALUE
