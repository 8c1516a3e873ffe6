"""How folds and formulas walk over rows of items, and the search for the test rows that show all that there is."""

from foldparts.fits import shares
from foldparts.forms import form_before, stepped
from foldparts.ratios import Ratio


class Walk:
    """The state before all items, the pairs (test item, step) in order, and the list of the forms of what is told.

    name and kinds are those of the fold that stands first in it.
    """

    def __init__(self, name, kinds, start, steps, finals):
        self.name = name
        self.kinds = kinds
        self.start = start
        self.steps = steps
        self.finals = finals


def walk_of(fold):
    """Return the walk of a fold, which tells the result."""
    steps = [(item, fold.step(item)) for item in fold.test_items()]
    return Walk(fold.name, fold.kinds, fold.start_state(), steps, [fold.final_form()])


def walked(walk, state, row):
    """Return the state to which a row of any items leads from this state."""
    for item in row:
        state = _state_behind(walk, state, item)
    return state


def _state_behind(walk, state, item):
    """Return the state after an item: the combination of those after the test items of its kind."""
    kind, values = item
    steps = [step for other, step in walk.steps if other[0] == kind]
    parts = [(Ratio(share, 1), step) for share, step in zip(shares(values), steps) if share != 0]
    return form_before([stepped(step, state) for share, step in parts], [share for share, step in parts])


def search_behind(walk, states, span, vector_of):
    """Return the list of the pairs (row, states after it) that the span takes, going through the rows in order.

    A row leads from these states to others, and vector_of gives their vector, by linear rules. So if the vector of
    a row is a combination of those before it, then so is the vector of the row with more items behind it.
    """
    def longer(found):
        return [(row + [item], [stepped(step, state) for state in before])
                for row, before in found for item, step in walk.steps]

    return _search([([], states)], span, vector_of, longer)


def search_ahead(walk, span, vector_of):
    """Return the list of the pairs ((number, row), form) that the span takes, as search_behind does.

    The form is that of what the walk tells under this number after the row; for one row, the numbers are gone through
    in order. Here it is the row with more items in front of it whose vector is a combination, too.
    """
    def longer(found):
        return [((number, [item] + row), form_before(step, form))
                for item, step in walk.steps for (number, row), form in found]

    return _search([((number, []), form) for number, form in enumerate(walk.finals)], span, vector_of, longer)


def _search(first, span, vector_of, longer):
    """Return the list of the pairs that the span takes, from the first ones on.

    longer gives, for all pairs of one length that are taken, those one item longer, in the order of their rows.
    """
    found = []
    fresh = first
    while len(fresh) > 0:
        taken = []
        for row, data in fresh:
            if not span.is_full() and span.take(vector_of(data)):
                taken.append((row, data))
        found.extend(taken)
        fresh = [] if span.is_full() else longer(taken)
    return found
