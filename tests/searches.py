"""What several tests share: plain searches over rows of test items, in the order of DOC.md's point 10.

They are written in another way than the package: every row of a length is tried, results are those of
reference.Sketch, and fractions are those of Python's own library.
"""

from fractions import Fraction
from itertools import product

from foldparts.folds import Fold
from foldparts.ratios import Ratio
from reference import Sketch, loosely_read, products_in_order, random_fraction, value_of

TEST_VALUES = [[()], [(0,), (1,), (2,)], [(0, 0), (0, 1), (0, 2), (1, 0), (1, 1), (2, 0)]]

# Folds for which little is generic: each with what it shows.
AFFINE = "fold affine\n  start p = 0\n  item put x y\n    p = p*x + y\n  result p\nend"
TURNS = "fold turns\n  start s = 1\n  start t = 0\n  item x v\n    s = -s\n    t = s*v + t\n  result t\nend"
SWAP = "fold swap\n  start a = 1\n  start b = 2\n  start c = 3\n  item x\n    a = b\n    b = c\n    c = a\n  result a\nend"
DELAY = "\n".join([
    "fold delay", "  start a = 0", "  start b = 0", "  start c = 0", "  item x v",
    "    a = v", "    b = a", "    c = b", "  result c", "end",
])
LATE = "\n".join([
    "fold late", "  start a = 1", "  start b = 0", "  start c = 0", "  item go", "    b = a", "    c = b", "  item stay",
    "    a = 2*a", "  result c", "end",
])
PRODUCT = "fold product\n  start p = 1\n  item x v\n    p = p*v\n  result p\nend"
VARIANCE = "\n".join([
    "fold squares", "  start n = 0", "  start s = 0", "  start q = 0", "  item x v", "    n = n + 1", "    s = s + v",
    "    q = q + v*v", "  result n - 1/3*s + q", "end",
])
IDLE = "\n".join([
    "fold idle", "  start a = 5", "  start b = 0", "  start c = 1/2", "  item x v", "    b = b*v + 1", "    c = -c*v",
    "  item y", "    a = a", "  result 2*a - 3", "end",
]).replace("    a = a\n", "")
SOME = "\n".join([
    "fold some", "  start a = 0", "  start b = 1", "  start c = 0", "  item a v", "    a = a + v", "    b = a + b*v",
    "    c = 7", "  item c", "    a = 2*a", "    c = a + c", "  result a - 1", "end",
])
CONSTANT = "fold still\n  item x v\n  item y\n  result -5/3\nend"
PAIRS = "\n".join([
    "fold pairs", "  start s = 0", "  start l = 0", "  item x v", "    s = s + l*v", "    l = v", "  result s", "end",
])
MOMENT = "\n".join([
    "fold moment", "  start p = 1", "  start t = 0", "  item x f g", "    p = p + f", "    t = p*g + t", "  item cut",
    "    t = 1/2*t", "  result t", "end",
])
TRIPLES = "\n".join([
    "fold triples", "  start a = 0", "  start b = 0", "  start c = 0", "  item x v", "    a = a + v", "    b = a*v + b",
    "    c = b*v + c", "  result c", "end",
])
EXAMPLES = [AFFINE, TURNS, SWAP, DELAY, LATE, PRODUCT, VARIANCE, IDLE, SOME, CONSTANT, PAIRS, MOMENT, TRIPLES]


def fraction_of(ratio):
    return Fraction(ratio.top, ratio.bottom)


def ratio_of(fraction):
    return Ratio(fraction.numerator, fraction.denominator)


def items_of(sketch):
    return [(kind, values) for kind, fields, updates in sketch.kinds for values in TEST_VALUES[len(fields)]]


def rows_of_length(items, length):
    return [list(row) for row in product(items, repeat=length)]


def rows_up_to(items, longest):
    return [row for length in range(longest + 1) for row in rows_of_length(items, length)]


class Basis:
    """Vectors of Fractions, none of them a combination of those before it."""

    def __init__(self):
        self.rows = []

    def add(self, vector):
        """Whether the vector was no combination of those that were added before."""
        rest = list(vector)
        for place, row in self.rows:
            if rest[place] != 0:
                rest = [number - rest[place] * less for number, less in zip(rest, row)]
        for place, number in enumerate(rest):
            if number != 0:
                self.rows.append((place, [other / number for other in rest]))
                return True
        return False


class Results:
    """The results of a sketch, with the registers after each row kept for longer rows."""

    def __init__(self, sketch):
        self.sketch = sketch
        self.names = [name for name, value in sketch.starts]
        self.kinds = {name: (fields, updates) for name, fields, updates in sketch.kinds}
        self.known = {(): dict(sketch.starts)}

    def registers(self, row):
        key = tuple(row)
        if key not in self.known:
            before = self.registers(key[:-1])
            fields, updates = self.kinds[key[-1][0]]
            inside = dict(zip(fields, key[-1][1]))
            after = {name: value_of(terms, before, inside) for name, terms in updates.items()}
            self.known[key] = {**before, **after}
        return self.known[key]

    def __call__(self, row):
        return value_of(self.sketch.final, self.registers(row), {})


def search_tails(results, longest):
    """The tails among the rows up to a length, told apart by the rows before them up to the same length."""
    items = items_of(results.sketch)
    fronts = rows_up_to(items, longest)
    basis = Basis()
    basis.add([Fraction(1) for front in fronts])
    return [row for row in rows_up_to(items, longest) if basis.add([results(front + row) for front in fronts])]


def search_heads(results, tails, longest):
    basis = Basis()
    rows = rows_up_to(items_of(results.sketch), longest)
    return [row for row in rows if basis.add([Fraction(1)] + [results(row + tail) for tail in tails])]


def search_contexts(results, heads, tails, pieces):
    basis = Basis()
    basis.add([Fraction(1) for piece in pieces])
    return [(head, tail) for head in heads for tail in tails
            if basis.add([results(head + piece + tail) for piece in pieces])]


def search_samples(results, contexts, longest):
    basis = Basis()
    rows = rows_up_to(items_of(results.sketch), longest)
    return [row for row in rows if basis.add([Fraction(1)] + [results(u + row + v) for u, v in contexts])]


def sketch_of(text):
    sketch = loosely_read(text)
    assert sketch.text() == text
    return sketch


def small_sketch(source, most_items, most_registers=3):
    """A random sketch with few test items, so that all its short rows can be tried."""
    shape = source.choice([shape for shape in ([0], [1], [0, 0], [0, 1], [1, 0], [1, 1], [2], [0, 0, 0], [0, 2])
                           if sum([1, 3, 6][many] for many in shape) <= most_items])
    names = source.sample(["a", "b", "c", "d", "z", "up", "q"], source.randrange(most_registers + 1))
    free = [name for name in ["a", "b", "c", "d", "e", "f"] if name not in names]
    kinds = []
    for kind, many in zip(source.sample(["a", "x", "item", "end"], len(shape)), shape):
        fields = source.sample(free, many)
        updates = {name: sparse_terms(source, names, fields) for name in names if source.randrange(5)}
        kinds.append((kind, fields, updates))
    starts = [(name, random_fraction(source)) for name in names]
    final = sparse_terms(source, names, ())
    if names and source.randrange(8):
        final[(names[0], ())] = Fraction(1)
    return Sketch("small", starts, kinds, final)


def commuting_sketch(source):
    """A random sketch whose order does not matter: each register is a sum, or a product, over the items."""
    names = ["s", "t", "u"][:source.randrange(1, 4)]
    are_sums = {name: source.randrange(2) for name in names}
    kinds = []
    for kind in ["x", "y", "z"][:source.randrange(1, 4)]:
        fields = ["f", "g"][:source.randrange(3)]
        updates = {}
        for name in names:
            parts = {key[1]: number for key, number in sparse_terms(source, [], fields).items()}
            if are_sums[name]:
                updates[name] = {(name, ()): Fraction(1), **{("", chosen): number for chosen, number in parts.items()}}
            else:
                updates[name] = {(name, chosen): number for chosen, number in parts.items()}
        kinds.append((kind, fields, updates))
    starts = [(name, Fraction(source.randrange(1, 4), 2)) for name in names]
    final = {("", ()): random_fraction(source), **{(name, ()): Fraction(source.randrange(1, 5), 3) for name in names}}
    return Sketch("calm", starts, kinds, final)


def sparse_terms(source, names, fields):
    keys = products_in_order(names, fields)
    chosen = source.sample(keys, min(len(keys), source.choice([1, 1, 2, 2, 3, 5])))
    return {key: source.choice([Fraction(1), Fraction(1), Fraction(-1), random_fraction(source)]) for key in chosen}


def any_item(source, fold, most=1000):
    """A random item of a fold, often with values at the limits."""
    kind, fields = source.choice(fold.kinds)
    return kind, tuple(source.choice([-most, most, 0, 1, 2, source.randrange(-most, most + 1)]) for field in fields)


def any_row(source, fold, longest, most=1000):
    return [any_item(source, fold, most) for _ in range(source.randrange(longest + 1))]


def texts(values):
    return [str(value) for value in values]


def fold_and_results(text):
    return Fold.parse(text), Results(sketch_of(text))
