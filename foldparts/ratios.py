"""Exact fractions."""

from math import gcd

from foldparts.errors import InvalidText, ZeroDenominator

# Python refuses to convert very long numbers to text and back, so they go block by block.
_BLOCK_DIGITS = 600
_BLOCK = (10 ** 60) ** 10


class Ratio:
    """An integer top divided by an integer bottom, in lowest terms with a positive bottom."""

    def __init__(self, top, bottom):
        if bottom == 0:
            raise ZeroDenominator()
        common = gcd(top, bottom)
        if bottom < 0:
            common = -common
        self.top = top // common
        self.bottom = bottom // common

    @classmethod
    def parse(cls, text):
        """Return the Ratio whose str is the text. Raise InvalidText(0) if there is none."""
        top_text, slash, bottom_text = text.partition("/")
        if slash == "":
            bottom_text = "1"
        top_digits = top_text.removeprefix("-")
        if not _are_digits(top_digits) or not _are_digits(bottom_text):
            raise InvalidText(0)
        top = _number(top_digits)
        bottom = _number(bottom_text)
        if bottom == 0:
            raise InvalidText(0)
        ratio = cls(top if top_text == top_digits else -top, bottom)
        if str(ratio) != text:
            raise InvalidText(0)
        return ratio

    def __add__(self, other):
        return Ratio(self.top * other.bottom + other.top * self.bottom, self.bottom * other.bottom)

    def __sub__(self, other):
        return Ratio(self.top * other.bottom - other.top * self.bottom, self.bottom * other.bottom)

    def __mul__(self, other):
        return Ratio(self.top * other.top, self.bottom * other.bottom)

    def __neg__(self):
        return Ratio(-self.top, self.bottom)

    def __eq__(self, other):
        return isinstance(other, Ratio) and self.top == other.top and self.bottom == other.bottom

    def __ne__(self, other):
        return not self == other

    def __str__(self):
        if self.bottom == 1:
            return str(_digits(self.top))
        return f"{_digits(self.top)}/{_digits(self.bottom)}"

    def __repr__(self):
        return f"Ratio({_digits(self.top)}, {_digits(self.bottom)})"

    def inverse(self):
        """Return 1 divided by this Ratio. Raise ZeroDenominator for 0."""
        return Ratio(self.bottom, self.top)

    def is_less(self, other):
        """Return True if this Ratio is less than another one, otherwise False."""
        return self.top * other.bottom < other.top * self.bottom


def _are_digits(text):
    """Return True if the text is one or more digits from 0 to 9, otherwise False."""
    return text.isascii() and text.isdigit()


def _number(digits):
    """Return the integer that the digits are."""
    padded = digits.zfill(len(digits) + _BLOCK_DIGITS - len(digits) % _BLOCK_DIGITS)
    number = 0
    for at in range(0, len(padded), _BLOCK_DIGITS):
        number = number * _BLOCK + int(padded[at:at + _BLOCK_DIGITS])
    return number


def _digits(number):
    """Return the integer as it is written."""
    rest = abs(number)
    blocks = []
    while rest >= _BLOCK:
        rest, block = divmod(rest, _BLOCK)
        blocks.append(str(block).zfill(_BLOCK_DIGITS))
    blocks.append(str(rest))
    if number < 0:
        blocks.append("-")
    return "".join(blocks[::-1])
