"""What a learner asks a teacher, and the walk that follows from the answers."""

from foldparts.forms import dot, stepped, transposed, unit
from foldparts.ratios import Ratio
from foldparts.spans import Span
from foldparts.walks import Walk


class Inquiry:
    """The answers of a teacher for some rows, and the heads and tails among these.

    Here a row is the tuple of the numbers of its test items. The view of a row is the list of the answers for it with
    each tail behind it, and then 1. There is one head more than tails, the views of the heads are independent, and
    each head but the empty one is another head with one item behind it.
    """

    def __init__(self, teacher, pattern, answers, heads, tails):
        self.answers = answers
        self.heads = heads
        self.tails = tails
        self._teacher = teacher
        self._pattern = pattern
        self._items = pattern.test_items()

    def branch(self):
        """Return an inquiry that goes on from here by itself."""
        answers = {row: self.answers[row] for row in self.answers}
        return Inquiry(self._teacher, self._pattern, answers, list(self.heads), list(self.tails))

    def row_numbers(self, row):
        """Return the tuple of the numbers of the test items in a list of them."""
        return tuple([self._items.index(item) for item in row])

    def asked_rows(self):
        """Return a new list of the rows that were asked, as lists of test items, in order."""
        ordered = sorted([(len(row), row) for row in self.answers])
        return [self._row_of(row) for length, row in ordered]

    def _row_of(self, numbers):
        return [self._items[number] for number in numbers]

    def answer(self, row):
        """Return the teacher's value for a row. The teacher is asked only once for it."""
        if row not in self.answers:
            self.answers[row] = self._teacher(self._row_of(row))
        return self.answers[row]

    def _view(self, row):
        return [self.answer(row + tail) for tail in self.tails] + [Ratio(1, 1)]

    def _form(self, span, tail):
        """Return the form whose value for the view of each head is the answer for the head with this tail behind it.

        The span is that of the columns of the views of the heads.
        """
        return span.weights([self.answer(head + tail) for head in self.heads])

    def made_walk(self):
        """Return the walk whose states are the views, as far as the views of the heads and one item tell."""
        span = self._view_span()
        still = unit(len(self.heads), len(self.tails))
        steps = []
        for number, item in enumerate(self._items):
            steps.append((item, [self._form(span, (number, *tail)) for tail in self.tails] + [still]))
        return Walk(self._pattern.name, self._pattern.kinds, self._view(()), steps, [self._form(span, ())])

    def _view_span(self):
        span = Span(len(self.heads))
        for column in transposed([self._view(head) for head in self.heads]):
            span.take(column)
        return span

    def wrong_row(self, walk):
        """Return a row that was asked and for which the walk tells something else, None if there is none."""
        for row in self.answers:
            if told_by(walk, row) != self.answers[row]:
                return row
        return None

    def widen(self, walk, row):
        """Take one more head and one more tail. The walk is that of this inquiry, and wrong for the row.

        The value that follows from the state after a front of the row, and the answers for what is behind, is right
        for the empty front and wrong for the whole row. So there is an item at which it becomes wrong, and behind
        which there is a tail that tells some head with this item apart from what the other heads make of it.
        """
        span = self._view_span()
        states = _states(walk, row)
        low, high = 0, len(row)
        wrong = told_by(walk, row)
        while high - low > 1:
            middle = (low + high) // 2
            if dot(self._form(span, row[middle:]), states[middle]) == wrong:
                high = middle
            else:
                low = middle
        item, tail = row[low:high], row[high:]
        form = self._form(span, tail)
        for head in list(self.heads):
            if dot(form, self._view(head + item)) != self.answer(head + item + tail):
                self.heads.append(head + item)
                self.tails.append(tail)
                return


def told_by(walk, row):
    """Return what a walk tells for a row."""
    return dot(walk.finals[0], _states(walk, row)[-1])


def _states(walk, row):
    """Return the list of the states after row[:0], row[:1], .. and the whole row."""
    states = [walk.start]
    for number in row:
        _, step = walk.steps[number]
        states.append(stepped(step, states[-1]))
    return states
