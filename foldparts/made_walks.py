"""Walks that are made of other walks.

Where it is not said otherwise, they tell one thing. The steps of a made walk are combinations of those of its test
items by the same weights as before, so it walks over all items as the walks that it is made of do.
"""

from foldparts.forms import dot, form_before, stepped, transposed, unit
from foldparts.ratios import Ratio
from foldparts.spans import Span
from foldparts.walks import Walk, search_behind, walked


def walks_together(walks):
    """Return the walk of all these at once, which tells what each of them tells, in order."""
    size = sum([len(walk.start) for walk in walks])
    pairs = [(walk, sum([len(other.start) for other in walks[:at]])) for at, walk in enumerate(walks)]
    items = [item for item, step in walks[0].steps] if len(walks) > 0 else []
    steps = []
    for at, item in enumerate(items):
        steps.append((item, [_placed(form, before, size) for walk, before in pairs for form in walk.steps[at][1]]))
    start = [number for walk in walks for number in walk.start]
    finals = [_placed(form, before, size) for walk, before in pairs for form in walk.finals]
    name, kinds = (walks[0].name, walks[0].kinds) if len(walks) > 0 else ("", ())
    return Walk(name, kinds, start, steps, finals)


def _placed(form, before, size):
    """Return the form of this size that is this form behind some other numbers."""
    zero = Ratio(0, 1)
    return [zero] * before + form + [zero] * (size - before - len(form))


def walk_with_one(walk):
    """Return the walk with a 1 behind each state. It tells what this walk tells, which may be many things."""
    size = len(walk.start) + 1
    steps = [(item, [_placed(form, 0, size) for form in step] + [unit(size, size - 1)]) for item, step in walk.steps]
    finals = [_placed(form, 0, size) for form in walk.finals]
    return Walk(walk.name, walk.kinds, walk.start + [Ratio(1, 1)], steps, finals)


def summed_walk(first, second):
    """Return the walk that tells the sum."""
    both = walks_together([first, second])
    left, right = both.finals
    return _with_final(both, [one + other for one, other in zip(left, right)])


def scaled_walk(walk, factor):
    """Return the walk that tells the product with a Ratio."""
    return _with_final(walk, [number * factor for number in walk.finals[0]])


def _with_final(walk, final):
    return Walk(walk.name, walk.kinds, walk.start, walk.steps, [final])


def mirrored_walk(walk):
    """Return the walk that tells for each row what this one tells for the row read from behind."""
    steps = [(item, transposed(step)) for item, step in walk.steps]
    return Walk(walk.name, walk.kinds, walk.finals[0], steps, [walk.start])


def running_walk(walk):
    """Return the walk that tells the sum of what this one tells for row[:0], row[:1], .. and the whole row.

    Its states have this sum behind those of the walk.
    """
    size = len(walk.start) + 1
    final = walk.finals[0]
    steps = []
    for item, step in walk.steps:
        adding = form_before(step, final) + [Ratio(1, 1)]
        steps.append((item, [_placed(form, 0, size) for form in step] + [adding]))
    return Walk(walk.name, walk.kinds, walk.start + [dot(final, walk.start)], steps, [unit(size, size - 1)])


def walk_ahead(walk, front):
    """Return the walk that tells for each row what this one tells for front + row."""
    return Walk(walk.name, walk.kinds, walked(walk, walk.start, front), walk.steps, walk.finals)


def walk_behind(walk, back):
    """Return the walk that tells for each row what this one tells for row + back."""
    return mirrored_walk(walk_ahead(mirrored_walk(walk), back[::-1]))


def walk_of_only(walk, names):
    """Return the walk that tells for each row what this one tells for its items of the kinds with these names."""
    size = len(walk.start)
    still = [unit(size, at) for at in range(size)]
    steps = [(item, step if item[0] in names else still) for item, step in walk.steps]
    return Walk(walk.name, walk.kinds, walk.start, steps, walk.finals)


def parting_of(first, second):
    """Return the first row of test items for which two walks tell different things, or None."""
    walk = walks_together([first, second])
    span = Span(len(walk.start))
    # If no row that is found shows a difference, no row does: its state is a combination of those of the found ones
    # before it.
    for row, states in search_behind(walk, [walk.start], span, lambda states: states[0]):
        one, other = stepped(walk.finals, states[0])
        if one != other:
            return row
    return None
