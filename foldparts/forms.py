"""Linear forms, and what items do to them.

A state is a list of Ratios; that of a fold is the list of the values of its registers, with a 1 behind them. A form is
a list of as many Ratios; its value for a state is the sum of the products. A step is a list of forms: their values are
the state behind it.
"""

from foldparts.ratios import Ratio


def dot(form, state):
    """Return the value of a form for a state."""
    top, bottom = 0, 1
    for factor, value in zip(form, state):
        # Most forms of a step have few factors other than 0.
        if factor.top != 0:
            other = factor.bottom * value.bottom
            top = top * other + factor.top * value.top * bottom
            bottom = bottom * other
    return Ratio(top, bottom)


def unit(size, place):
    """Return the form of this size whose value is what stands at the place of a state."""
    return [Ratio(1 if at == place else 0, 1) for at in range(size)]


def stepped(step, state):
    """Return the state after a step."""
    return [dot(form, state) for form in step]


def form_before(step, form):
    """Return the form with the value, for each state, that this form has after the step."""
    return [dot(form, column) for column in zip(*step)]


def transposed(rows):
    """Return the list of the columns of some rows of one length."""
    return [list(column) for column in zip(*rows)]


def composed(left, right):
    """Return the product of two tables: its rows are combinations of the right rows, by the left ones."""
    columns = transposed(right)
    return [stepped(columns, row) for row in left]
