"""Whether the order of the items matters for a fold."""

from foldparts.forms import dot, form_before, stepped
from foldparts.frames import Frame
from foldparts.walks import walk_of


def order_example(fold):
    """Return None if the order does not matter, otherwise (u, a, b, v) as is_order_example accepts it.

    u and v are rows of at most three test items, a and b are test items.
    """
    frame = Frame(walk_of(fold))
    for back, form in zip(frame.tails, frame.forms[1:]):
        ahead = [(item, form_before(step, form)) for item, step in frame.walk.steps]
        for front, state in zip(frame.heads, frame.states):
            behind = [(item, stepped(step, state)) for item, step in frame.walk.steps]
            found = _exchange(behind, ahead)
            if found is not None:
                return (front, found[0], found[1], back)
    return None


def _exchange(behind, ahead):
    """Return a pair of items of which either order gives another result, or None.

    behind has each item with the state behind it, ahead each item with the form of the result from before it.
    """
    for at, (a, state) in enumerate(behind):
        form = ahead[at][1]
        for other in range(at):
            b, b_state = behind[other]
            if dot(ahead[other][1], state) != dot(form, b_state):
                return (a, b)
    return None


def is_order_example(fold, value):
    """Return True if the value, which may be any value, is a tuple (u, a, b, v) that shows that the order matters.

    So u and v are lists of items, a and b are items, and u + [a, b] + v and u + [b, a] + v have other results.
    """
    if not isinstance(value, tuple) or len(value) != 4:
        return False
    u, a, b, v = value
    if not isinstance(u, list) or not isinstance(v, list):
        return False
    if not all([fold.has_item(item) for item in [*u, a, b, *v]]):
        return False
    return fold(u + [a, b] + v) != fold(u + [b, a] + v)
