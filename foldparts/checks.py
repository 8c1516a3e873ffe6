"""What arguments that may be any value are asked, and what is kept and told of them."""

from foldparts.errors import BadItem

_MOST_VALUE = 1000


def is_integer(value):
    """Return True if the value is an integer, otherwise False. True and False are none."""
    return isinstance(value, int) and not isinstance(value, bool)


def is_item(kinds, value):
    """Return True if the value, which may be any value, is an item of these kinds, otherwise False."""
    if not isinstance(value, tuple) or len(value) != 2:
        return False
    kind, numbers = value
    if not isinstance(numbers, tuple):
        return False
    many = [len(fields) for name, fields in kinds if name == kind]
    return many == [len(numbers)] and all([_is_field_value(number) for number in numbers])


def check_row(kinds, row):
    """Raise BadItem(index) of the first element of the row that is no item of these kinds, if there is one."""
    for index, item in enumerate(row):
        if not is_item(kinds, item):
            raise BadItem(index)


def have_same_kinds(kinds, others):
    """Return True if these kinds have the same names in the same order, and the same numbers of fields."""
    return [(name, len(fields)) for name, fields in kinds] == [(name, len(fields)) for name, fields in others]


def copied(value):
    """Return the value with new lists and dicts, also those within others."""
    if isinstance(value, list):
        return [copied(part) for part in value]
    if isinstance(value, tuple):
        return tuple([copied(part) for part in value])
    if isinstance(value, dict):
        return {key: copied(value[key]) for key in value}
    return value


def _is_field_value(value):
    """Return True if the value, which may be any value, can stand in an item, otherwise False."""
    return is_integer(value) and -_MOST_VALUE <= value <= _MOST_VALUE
