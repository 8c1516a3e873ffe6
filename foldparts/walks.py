"""How folds walk over rows of test items, and the search for the rows that show all that there is."""

from foldparts.forms import form_before, stepped


class Walk:
    """The state before all items, the pairs (test item, step) in order, and the form of the result."""

    def __init__(self, start, steps, final):
        self.start = start
        self.steps = steps
        self.final = final


def walk_of(fold):
    """Return the walk of a fold."""
    return Walk(fold.start_state(), [(item, fold.step(item)) for item in fold.test_items()], fold.final_form())


def search_behind(walk, states, span, vector_of):
    """Return the list of the pairs (row, states after it) that the span takes, going through the rows in order.

    A row leads from these states to others, and vector_of gives their vector, by linear rules. So if the vector of
    a row is a combination of those before it, then so is the vector of the row with more items behind it.
    """
    def longer(found):
        return [(row + [item], [stepped(step, state) for state in before])
                for row, before in found for item, step in walk.steps]

    return _search(([], states), span, vector_of, longer)


def search_ahead(walk, span, vector_of):
    """Return the list of the pairs (row, form of the result after it) that the span takes, as search_behind does.

    Here it is the row with more items in front of it whose vector is a combination, too.
    """
    def longer(found):
        return [([item] + row, form_before(step, form)) for item, step in walk.steps for row, form in found]

    return _search(([], walk.final), span, vector_of, longer)


def _search(first, span, vector_of, longer):
    """Return the list of the pairs that the span takes, from the first one on.

    longer gives, for all pairs of one length that are taken, those one item longer, in the order of their rows.
    """
    found = []
    fresh = [first]
    while len(fresh) > 0:
        taken = []
        for row, data in fresh:
            if not span.is_full() and span.take(vector_of(data)):
                taken.append((row, data))
        found.extend(taken)
        fresh = [] if span.is_full() else longer(taken)
    return found
