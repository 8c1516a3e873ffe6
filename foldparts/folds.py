"""Folds: what they are, and their results for rows of items."""

from foldparts.checks import check_row, is_item
from foldparts.drafts import read_draft
from foldparts.forms import dot, stepped, unit
from foldparts.ratios import Ratio
from foldparts.sums import sum_form

# The values of the test items, by the number of fields.
_TEST_VALUES = (
    ((),),
    ((0,), (1,), (2,)),
    ((0, 0), (0, 1), (0, 2), (1, 0), (1, 1), (2, 0)),
)


class Fold:
    """A fold. It is made from its text form, and it never changes."""

    def __init__(self, text):
        draft = read_draft(text)
        self.text = text
        self.name = draft.name
        self.registers = tuple(draft.registers)
        self.kinds = tuple(draft.kinds)
        self.updates = {kind: tuple(new) for (kind, fields), new in zip(draft.kinds, draft.updates)}
        self.final = draft.final

    @classmethod
    def parse(cls, text):
        """Return the fold of a text form. Raise InvalidText(row) if the text is none."""
        return cls(text)

    def __str__(self):
        return str(self.text)

    def __eq__(self, other):
        return isinstance(other, Fold) and self.text == other.text

    def __ne__(self, other):
        return not self == other

    def __call__(self, row):
        """Return the result for a row. Raise BadItem(index) of the first element that is no item."""
        return dot(self.final_form(), self.state_after(row))

    def registers_after(self, row):
        """Return the tuple of the values of the registers after a row. Raise BadItem(index)."""
        return tuple(self.state_after(row)[:-1])

    def test_items(self):
        """Return a new list of the test items, in order."""
        return [(kind, values) for kind, fields in self.kinds for values in _TEST_VALUES[len(fields)]]

    def has_item(self, item):
        """Return True if item, which may be any value, is an item of the fold, otherwise False."""
        return is_item(self.kinds, item)

    def check_row(self, row):
        """Raise BadItem(index) of the first element of the row that is no item, if there is one."""
        check_row(self.kinds, row)

    def start_state(self):
        """Return the state before all items: the start values and 1."""
        return [start for name, start in self.registers] + [Ratio(1, 1)]

    def step(self, item):
        """Return the step of an item. What no row of the text tells anew stays as it is."""
        kind, numbers = item
        size = len(self.registers) + 1
        step = [unit(size, at) for at in range(size)]
        for at, terms in self.updates[kind]:
            step[at] = sum_form(terms, size, numbers)
        return step

    def state_after(self, row):
        """Return the state after a row. Raise BadItem(index)."""
        self.check_row(row)
        state = self.start_state()
        for item in row:
            state = stepped(self.step(item), state)
        return state

    def final_form(self):
        """Return the form whose value for a state is the result."""
        return sum_form(self.final, len(self.registers) + 1, ())
