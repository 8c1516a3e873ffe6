"""What several tests share: formulas beside a plain account of what they are.

The plain account follows DOC.md's point 23 word for word, row by row, with Fractions. Rows are tuples there.
"""

from fractions import Fraction

from foldparts.folds import Fold
from foldparts.formulas import Formula
from reference import random_fraction
from searches import TEST_VALUES, Basis, Results, fraction_of, ratio_of, rows_up_to, sketch_of

LAST = "fold last\n  start s = 0\n  item x v\n    s = v\n  result s\nend"
MANY = "fold many\n  start s = 0\n  item a\n    s = s + 1\n  result s\nend"
ONE = "fold one\n  item a\n  result 1\nend"
# Two kinds without fields, so there are few rows of each length.
STEPS = "\n".join([
    "fold steps", "  start s = 1", "  start t = 0", "  item a", "    s = 2*s - t", "    t = s", "  item b", "    t = t + 1",
    "  result s + 1/2*t", "end",
])
POWERS = "fold powers\n  start s = 1\n  item a\n    s = 3*s\n  item b\n    s = -1/2*s\n  result s - 4\nend"
COUNT_B = "fold count\n  start s = 0\n  item a\n  item b\n    s = s + 1\n  result s\nend"
COUNT_A = "fold other\n  start s = 0\n  item a\n    s = s + 1\n  item b\n  result -s\nend"
LAST_IS_B = "fold lastb\n  start s = 0\n  item a\n    s = 0\n  item b\n    s = 1\n  result s\nend"
ALWAYS = "fold always\n  item a\n  item b\n  result 2/3\nend"
NEVER = "fold never\n  item a\n  item b\n  result 0\nend"
LETTERS = [STEPS, POWERS, COUNT_B, COUNT_A, LAST_IS_B, ALWAYS]
# One kind with a field, beside one without; the fields need not have the same names.
FIELDS = [
    "fold mixed\n  start s = 1\n  start t = 2\n  item x v\n    s = s*v + t\n    t = t - v*v\n  item y\n    t = s\n  result s\nend",
    "fold more\n  start p = 0\n  item x w\n    p = p + w\n  item y\n    p = -p + 1\n  result 2*p - 1\nend",
    "fold lastx\n  start r = 5\n  item x field\n    r = field\n  item y\n  result r\nend",
]
# Two fields.
SQUARES = [
    "fold plane\n  start p = 0\n  item put x y\n    p = p*x + y\n  item cut\n    p = 1/2*p\n  result p\nend",
    "fold area\n  start s = 1\n  start t = 0\n  item put v w\n    s = s + v*w\n    t = -s*w*w + t + v\n  item cut\n    s = 2\n  result s + t\nend",
]
FAMILIES = [LETTERS, FIELDS, SQUARES]


class Twin:
    """A formula, and what it must be: a plain function of rows, a size, kinds and a name."""

    def __init__(self, formula, plain, size, kinds, name):
        self.formula = formula
        self.size = size
        self.kinds = kinds
        self.name = name
        self._plain = plain
        self._known = {}

    def __call__(self, row):
        key = tuple(row)
        if key not in self._known:
            self._known[key] = self._plain(key)
        return self._known[key]

    def _made(self, formula, plain, size):
        return Twin(formula, plain, size, self.kinds, self.name)

    def __add__(self, other):
        return self._made(self.formula + other.formula, lambda row: self(row) + other(row), self.size + other.size)

    def __sub__(self, other):
        return self._made(self.formula - other.formula, lambda row: self(row) - other(row), self.size + other.size)

    def __neg__(self):
        return self._made(-self.formula, lambda row: -self(row), self.size)

    def __mul__(self, factor):
        return self._made(self.formula * ratio_of(factor), lambda row: self(row) * factor, self.size)

    def mirrored(self):
        return self._made(self.formula.mirrored(), lambda row: self(row[::-1]), self.size)

    def running(self):
        return self._made(self.formula.running(), lambda row: sum(self(row[:k]) for k in range(len(row) + 1)), self.size + 1)

    def summed(self):
        def plain(row):
            return sum(self(row[i:j]) for j in range(len(row) + 1) for i in range(j + 1))

        return self._made(self.formula.summed(), plain, self.size + 2)

    def ahead(self, front):
        return self._made(self.formula.ahead(list(front)), lambda row: self((*front, *row)), self.size)

    def behind(self, back):
        return self._made(self.formula.behind(list(back)), lambda row: self((*row, *back)), self.size)

    def only(self, names):
        kept = tuple(names)
        return self._made(self.formula.only(list(names)), lambda row: self(tuple(item for item in row if item[0] in kept)), self.size)


def twin_of(text):
    fold, results = Fold.parse(text), Results(sketch_of(text))
    return Twin(Formula(fold), results, len(fold.registers) + 1, fold.kinds, fold.name)


def random_twin(source, family, steps, most_size=8):
    """A twin of a few operations over the folds of a family, of a size up to most_size."""
    twin = twin_of(source.choice(family))
    while twin.size > most_size:
        twin = twin_of(source.choice(family))
    for _ in range(steps):
        twin = longer_twin(source, family, twin, most_size)
    return twin


def longer_twin(source, family, twin, most_size):
    way = source.choice(["add", "sub", "neg", "times", "mirrored", "running", "summed", "ahead", "behind", "only", "running"])
    if way in ("add", "sub"):
        other = random_twin(source, family, source.randrange(3), 3)
        if source.randrange(2):
            twin, other = other, twin
        if twin.size + other.size > most_size:
            return twin if twin.size <= most_size else other
        return twin + other if way == "add" else twin - other
    if way == "running" and twin.size < most_size:
        return twin.running()
    if way == "summed" and twin.size + 1 < most_size:
        return twin.summed()
    if way == "times":
        return twin * random_fraction(source)
    if way in ("ahead", "behind"):
        return getattr(twin, way)(few_items(source, twin, 3))
    if way == "only":
        names = [name for name, fields in twin.kinds]
        return twin.only(source.sample(names, source.randrange(len(names) + 1)))
    return -twin if way == "neg" else twin.mirrored()


def few_items(source, twin, longest, most=3):
    """A random short row of small items of a twin's kinds."""
    row = []
    for _ in range(source.randrange(longest + 1)):
        name, fields = source.choice(twin.kinds)
        row.append((name, tuple(source.randrange(-most, most + 1) for field in fields)))
    return row


def items_of_kinds(kinds):
    """The test items of the kinds, in order."""
    return [(name, values) for name, fields in kinds for values in TEST_VALUES[len(fields)]]


class PlainTable:
    """Point 25 by a search over all rows up to a length, in front and behind."""

    def __init__(self, twins, longest):
        self.twins = twins
        items = items_of_kinds(twins[0].kinds)
        self.rows = rows_up_to(items, longest)
        basis = Basis()
        basis.add([Fraction(1)] * len(self.rows))
        self.tails = []
        for row in self.rows:
            for number, twin in enumerate(twins):
                if basis.add([twin(front + row) for front in self.rows]):
                    self.tails.append((number, row))
        basis = Basis()
        self.heads = [row for row in self.rows if basis.add([Fraction(1), *self.kept(row)])]

    def kept(self, row):
        return [self.twins[number](list(row) + tail) for number, tail in self.tails]

    def is_whole(self):
        """Whether no longer row could have told more, since those of the greatest length told nothing."""
        longest = len(self.rows[-1])
        return all(len(row) < longest for number, row in self.tails) and all(len(row) < longest for row in self.heads)


def values_of(formula, row):
    return fraction_of(formula(row))
