"""What arguments that may be any value are asked."""


def is_integer(value):
    """Return True if the value is an integer, otherwise False. True and False are none."""
    return isinstance(value, int) and not isinstance(value, bool)
