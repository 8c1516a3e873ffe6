"""Bags: what is known of items that were put together in no order."""

from foldparts.back import obstacle_in, table_in
from foldparts.errors import OrderMatters, Stuck
from foldparts.forms import stepped, unit
from foldparts.order import order_example


class Bag:
    """A bag for a fold whose order does not matter."""

    def __init__(self, scheme):
        example = order_example(scheme.fold)
        if example is not None:
            raise OrderMatters(example)
        self.scheme = scheme
        self._held = scheme.numbers([])

    @property
    def held(self):
        """The tuple of the numbers that the bag keeps."""
        return self._held

    def put(self, numbers):
        """Put in a piece by its numbers. Raise WrongCount(size)."""
        self._held = self.scheme.joined(self._held, numbers)

    def put_item(self, item):
        """Put in an item. Raise BadItem(0) if item, which may be any value, is none."""
        self.put(self.scheme.numbers([item]))

    def take_out(self, item):
        """Take out an item. Raise BadItem(0), and Stuck(obstacle) if it cannot be taken back."""
        self.scheme.fold.check_row([item])
        frame = self.scheme.frame
        step = self.scheme.fold.step(item)
        back = table_in(frame, step)
        if back is None:
            raise Stuck(obstacle_in(frame, step))
        # As the order does not matter, the item can be taken for the last one of what is held. So each row of the
        # table is a view with the item at the end, from which the rules lead to the view without it.
        rules = [unit(len(frame.forms), 0), *back]
        table = self.scheme.table(self._held)
        self._held = self.scheme.numbers_in([stepped(rules, view) for view in table])

    def result(self):
        """Return the result for the numbers that the bag keeps."""
        return self.scheme.outcome(self._held)
