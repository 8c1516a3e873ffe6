"""The errors of the package. Each one keeps what it was given in its attributes."""


class PartError(ValueError):
    """The base class of all errors of the package."""


class InvalidText(PartError):
    """A text is not in the required form: row is in no such text after the rows before it."""

    def __init__(self, row):
        self.row = row


class ZeroDenominator(PartError):
    """A fraction would have 0 below."""


class BadItem(PartError):
    """The thing at this index is not an item."""

    def __init__(self, index):
        self.index = index


class OtherKinds(PartError):
    """Two folds or formulas do not have the same kinds."""


class WrongCount(PartError):
    """There are not as many numbers as this count."""

    def __init__(self, count):
        self.count = count


class BadPlaces(PartError):
    """These are not the start and the end of places on the board."""

    def __init__(self, start, end):
        self.start = start
        self.end = end


class Disputed(PartError):
    """The piece on these places has other numbers."""

    def __init__(self, start, end):
        self.start = start
        self.end = end


class Overlap(PartError):
    """The piece on these places is in the way."""

    def __init__(self, start, end):
        self.start = start
        self.end = end


class UnknownPiece(PartError):
    """There is no piece on just these places."""

    def __init__(self, start, end):
        self.start = start
        self.end = end


class Missing(PartError):
    """These stretches of places are not covered."""

    def __init__(self, places):
        self.places = places


class OrderMatters(PartError):
    """The order matters for the fold, as the example shows."""

    def __init__(self, example):
        self.example = example


class Stuck(PartError):
    """An item cannot be taken back, as the obstacle shows."""

    def __init__(self, obstacle):
        self.obstacle = obstacle


class TooLarge(PartError):
    """Formulas would have this size, which is above the limit."""

    def __init__(self, size):
        self.size = size


class UnknownKind(PartError):
    """There is no kind of this name."""

    def __init__(self, name):
        self.name = name


class TooWide(PartError):
    """A formula has this width, which is above the limit."""

    def __init__(self, width):
        self.width = width


class UnknownMark(PartError):
    """There is no mark of this number."""

    def __init__(self, number):
        self.number = number


class NoObjection(PartError):
    """The guess already has the value of the teacher."""


class NoFold(PartError):
    """No fold with so few registers has the values of the teacher."""
