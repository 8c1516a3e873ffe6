"""The writer of narrowest folds."""

from foldparts.fits import fitted
from foldparts.folds import Fold
from foldparts.forms import dot, form_before, stepped, transposed
from foldparts.spans import Span
from foldparts.sums import product_table, write_sum


def narrow_fold(frame):
    """Return the fold whose registers are the kept numbers of the frame, with the name and the kinds of its walk.

    The walk of the frame tells one thing, the result of the fold, and there are at most three tails.
    """
    walk = frame.walk
    names = _free_names(walk.kinds)[:len(frame.tails)]
    rows = ["fold " + walk.name]
    for name, value in zip(names, frame.view(walk.start)[1:]):
        rows.append("  start " + name + " = " + str(value))
    rules = _rules(frame)
    for kind, fields in walk.kinds:
        rows.append(" ".join(["  item", kind, *fields]))
        chosen = [rule for item, rule in rules if item[0] == kind]
        rows.extend(_update_rows(chosen, names, list(product_table(names, fields))))
    # The first tail, if there is one, is the empty row, so its kept number is the result.
    rows.append("  result " + (str(dot(walk.finals[0], walk.start)) if names == [] else names[0]))
    rows.append("end")
    return Fold.parse("\n".join(rows))


def _free_names(kinds):
    """Return the list of the names a, b, c, ..., z that no field of these kinds has."""
    taken = [name for kind, fields in kinds for name in fields]
    return [letter for letter in "abcdefghijklmnopqrstuvwxyz" if letter not in taken]


def _rules(frame):
    """Return the list of the pairs (test item, its rules).

    An item has a rule for each kept number behind it: the list of its weights in the view in front of it.
    """
    span = Span(len(frame.forms))
    for column in transposed(frame.views()):
        span.take(column)
    rules = []
    for item, step in frame.walk.steps:
        columns = [stepped(frame.states, form_before(step, form)) for form in frame.forms[1:]]
        rules.append((item, [span.weights(column) for column in columns]))
    return rules


def _update_rows(rules, names, products):
    """Return the list of the rows below the row of a kind of the narrowest fold.

    The rules are those of the test items of the kind, in order; names are those of the registers, and products what
    the terms of its sums may have, in order.
    """
    rows = []
    for at, name in enumerate(names):
        coefficients = []
        # In a sum, the terms without a register come last.
        for place in list(range(1, len(names) + 1)) + [0]:
            coefficients.extend(fitted([rule[at][place] for rule in rules]))
        text = write_sum(products, coefficients)
        if text != name:
            rows.append("    " + name + " = " + text)
    return rows
