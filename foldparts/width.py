"""How many numbers must be kept for a fold, and which ones."""

from foldparts.fits import fitted
from foldparts.folds import Fold
from foldparts.forms import form_before, stepped, transposed
from foldparts.frames import Frame
from foldparts.spans import Span
from foldparts.sums import product_table, write_sum


def tails(fold):
    """Return the list of the tails."""
    return Frame(fold).tails


def heads(fold):
    """Return the list of the heads."""
    return Frame(fold).heads


def kept(fold, row):
    """Return the tuple of the kept numbers of a row. Raise BadItem(index) of the first element that is no item."""
    state = fold.state_after(row)
    return tuple(Frame(fold).view(state)[1:])


def narrowest(fold):
    """Return the fold with as few registers as possible, which are the kept numbers."""
    frame = Frame(fold)
    names = _free_names(fold)[:len(frame.tails)]
    rows = ["fold " + fold.name]
    for name, value in zip(names, frame.view(frame.walk.start)[1:]):
        rows.append("  start " + name + " = " + str(value))
    for kind, fields in fold.kinds:
        rows.append(" ".join(["  item", kind, *fields]))
        rows.extend(_update_rows(frame, kind, names, list(product_table(names, fields))))
    # The first tail, if there is one, is the empty row, so its kept number is the result.
    rows.append("  result " + (str(fold([])) if names == [] else names[0]))
    rows.append("end")
    return Fold.parse("\n".join(rows))


def _free_names(fold):
    """Return the list of the names a, b, c, ..., z that no field has."""
    taken = [name for kind, fields in fold.kinds for name in fields]
    return [letter for letter in "abcdefghijklmnopqrstuvwxyz" if letter not in taken]


def _update_rows(frame, kind, names, products):
    """Return the list of the rows below the row of a kind of the narrowest fold.

    names are those of its registers, products what its sums have in their terms, in order.
    """
    rules = [_rules(frame, step) for item, step in frame.walk.steps if item[0] == kind]
    rows = []
    for at, name in enumerate(names):
        coefficients = []
        # In a sum, the terms without a register come last.
        for place in list(range(1, len(names) + 1)) + [0]:
            coefficients.extend(fitted([rule[at][place] for rule in rules]))
        text = write_sum(products, coefficients)
        if text != name:
            rows.append("    " + name + " = " + text)
    return rows


def _rules(frame, step):
    """Return for each kept number after a step its rule: the list of its weights in the view before it."""
    span = Span(len(frame.forms))
    for column in transposed(frame.views()):
        span.take(column)
    return [span.weights(stepped(frame.states, form_before(step, form))) for form in frame.forms[1:]]
