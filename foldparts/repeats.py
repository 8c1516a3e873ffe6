"""How the value of a formula goes on when a piece is repeated."""

from foldparts.checks import check_row
from foldparts.forms import dot
from foldparts.ratios import Ratio
from foldparts.spans import Span
from foldparts.walks import walked


def recursion(formula, front, piece, back):
    """Return the tuple (c0, c1, .., cd) by which the values follow for front, then n times the piece, then back.

    Raise BadItem(index) for front, then for piece, then for back.
    """
    begun = formula.ahead(front)
    check_row(formula.kinds, piece)
    walk = begun.behind(back).walk
    # The values and 1 come from states of so many numbers, by one step for the piece. So sums of their products
    # that are 0 for so many n, one after the other, are 0 for all.
    many = formula.size + 1
    values = _values(walk, piece, 2 * many)
    span = Span(many)
    span.take([Ratio(1, 1)] * many)
    depth = 0
    while span.take(values[depth:depth + many]):
        depth = depth + 1
    constant, *factors = span.weights(values[depth:depth + many])
    # The factors are those of the earliest values first.
    return tuple([constant] + factors[::-1])


def _values(walk, piece, many):
    """Return the list of so many values, each with the piece repeated once more."""
    values = []
    state = walk.start
    for _ in range(many):
        values.append(dot(walk.finals[0], state))
        state = walked(walk, state, piece)
    return values
