"""What several tests share: a second, plainer account of DOC.md's text form and results.

It is written in another way than the package: fractions are those of Python's own library, a text
is read loosely and then written again, and it is a text form exactly if that gives the same text.
"""

import re
from fractions import Fraction

from foldparts.errors import InvalidText
from foldparts.folds import Fold

NAME = re.compile(r"[a-z]{1,8}")
NUMBER = re.compile(r"-?[0-9]+(/0*[1-9][0-9]*)?")

MEAN = "\n".join([
    "fold mean",
    "  start total = 0",
    "  start many = 0",
    "  item sale price",
    "    total = total + price",
    "    many = many + 1",
    "  item back price",
    "    total = total - price",
    "    many = many - 1",
    "  result 2*total - 1/2*many",
    "end",
])

# Three registers and kinds, none to two fields, every place of a term, every form of a coefficient.
FULL = "\n".join([
    "fold fullfold",
    "  start a = -1/2",
    "  start longname = 12",
    "  start c = 0",
    "  item x v w",
    "    a = -2/3*a + a*v - a*w + 3*a*v*v + a*v*w - 1/2*a*w*w + longname*w + c - 7 + v + 2*w - v*v + v*w + w*w",
    "    c = 0",
    "  item y",
    "    longname = 1/3*longname - c - 1",
    "  item item item",
    "    a = -item*item",
    "    longname = -5/4 + item",
    "    c = 7",
    "  result -a + 5/2*c - 1/7",
    "end",
])

WORDS = "\n".join([
    "fold fold",
    "  start start = -3",
    "  start item = 1",
    "  start end = 1/2",
    "  item start fold result",
    "    start = start*fold + end",
    "    end = -result",
    "  item result",
    "  item end",
    "    item = 1",
    "  result start + item - end",
    "end",
])

SMALL = "fold f\n  item x\n  result 0\nend"


def row_of(text):
    """The row of the InvalidText that the text raises, None if the text is read."""
    try:
        fold = Fold.parse(text)
    except InvalidText as error:
        return error.row
    assert str(fold) == text
    return None


class Sketch:
    """A fold as plain data: sums are dicts from (register or "", tuple of fields) to a Fraction."""

    def __init__(self, name, starts, kinds, final):
        self.name = name
        self.starts = starts
        self.kinds = kinds
        self.final = final

    def text(self):
        registers = [name for name, value in self.starts]
        rows = ["fold " + self.name]
        rows += [f"  start {name} = {value}" for name, value in self.starts]
        for kind, fields, updates in self.kinds:
            rows.append("  item " + " ".join([kind, *fields]))
            for name in registers:
                terms = updates.get(name, {(name, ()): Fraction(1)})
                if written_sum(terms, registers, fields) != name:
                    rows.append(f"    {name} = {written_sum(terms, registers, fields)}")
        rows.append("  result " + written_sum(self.final, registers, ()))
        return "\n".join([*rows, "end"])

    def registers_after(self, row):
        values = dict(self.starts)
        for kind, numbers in row:
            fields, updates = [(fields, updates) for name, fields, updates in self.kinds if name == kind][0]
            inside = dict(zip(fields, numbers))
            fresh = {name: value_of(terms, values, inside) for name, terms in updates.items()}
            values.update(fresh)
        return tuple(values[name] for name, start in self.starts)

    def result(self, row):
        names = [name for name, value in self.starts]
        return value_of(self.final, dict(zip(names, self.registers_after(row))), {})


def value_of(terms, values, inside):
    total = Fraction(0)
    for (name, fields), coefficient in terms.items():
        product = coefficient * (values[name] if name else 1)
        for field in fields:
            product *= inside[field]
        total += product
    return total


def products_in_order(registers, fields):
    """The keys of a sum in the order of point 8."""
    if len(fields) == 0:
        behind = [()]
    elif len(fields) == 1:
        behind = [(), (fields[0],), (fields[0], fields[0])]
    else:
        f, g = fields
        behind = [(), (f,), (g,), (f, f), (f, g), (g, g)]
    return [(name, chosen) for name in [*registers, ""] for chosen in behind]


def written_sum(terms, registers, fields):
    text = ""
    for key in products_in_order(registers, fields):
        coefficient = terms.get(key, 0)
        if coefficient != 0:
            factors = [factor for factor in [key[0], *key[1]] if factor]
            if abs(coefficient) != 1 or not factors:
                factors.insert(0, str(abs(coefficient)))
            if text:
                text += " - " if coefficient < 0 else " + "
            elif coefficient < 0:
                text = "-"
            text += "*".join(factors)
    return text or "0"


def is_text_form(text):
    sketch = loosely_read(text)
    return sketch is not None and sketch.text() == text


def can_begin(rows):
    """Whether some text form begins with these rows: one of a few ways to go on is enough."""
    endings = ([], ["end"], ["  result 0", "end"], ["  item zzz", "  result 0", "end"])
    return any(is_text_form("\n".join([*rows, *ending])) for ending in endings)


def is_right_row(text, row):
    """Whether row is what DOC.md requires of the reader for this text, None for a text form."""
    if row is None:
        return is_text_form(text)
    rows = text.split("\n")
    if is_text_form(text) or (row > 0 and not can_begin(rows[:row])):
        return False
    return row == len(rows) or not can_begin(rows[:row + 1])


def loosely_read(text):
    """The sketch of a text, None where that is plainly impossible."""
    rows = text.split("\n")
    if len(rows) < 3 or not rows[0].startswith("fold ") or rows[-1] != "end":
        return None
    if not rows[-2].startswith("  result "):
        return None
    starts, kinds = [], []
    for row in rows[1:-2]:
        words = row.split()
        if words[:1] == ["start"] and row.startswith("  s") and len(words) == 4 and not kinds:
            if not NUMBER.fullmatch(words[3]):
                return None
            starts.append((words[1], Fraction(words[3])))
        elif words[:1] == ["item"] and row.startswith("  i") and len(words) > 1:
            kinds.append((words[1], tuple(words[2:]), {}))
        elif row.startswith("    ") and kinds and words[1:2] == ["="]:
            kind, fields, updates = kinds[-1]
            terms = loose_sum(row.partition(" = ")[2], [name for name, value in starts], fields)
            if terms is None or words[0] in updates:
                return None
            updates[words[0]] = terms
        else:
            return None
    final = loose_sum(rows[-2][9:], [name for name, value in starts], ())
    sketch = Sketch(rows[0][5:], starts, kinds, final)
    return sketch if final is not None and is_within_limits(sketch) else None


def is_within_limits(sketch):
    registers = [name for name, value in sketch.starts]
    kinds = [name for name, fields, updates in sketch.kinds]
    groups = [registers, kinds] + [[*registers, *fields] for name, fields, updates in sketch.kinds]
    names = [sketch.name, *kinds] + [name for group in groups for name in group]
    return (len(registers) <= 3 and 1 <= len(kinds) <= 3
            and all(len(fields) <= 2 for name, fields, updates in sketch.kinds)
            and all(len(set(group)) == len(group) for group in groups)
            and all(NAME.fullmatch(name) for name in names))


def loose_sum(text, registers, fields):
    """The dict of a sum, None if a part of it is not even known."""
    terms = {}
    for part in text.replace(" - ", " + -").split(" + "):
        coefficient = Fraction(-1 if part.startswith("-") else 1)
        inside = []
        for factor in part.removeprefix("-").split("*"):
            if NUMBER.fullmatch(factor):
                coefficient *= Fraction(factor)
            else:
                inside.append(factor)
        first = inside[0] if inside and inside[0] in registers else ""
        behind = tuple(inside[1:] if first else inside)
        if len(behind) > 2 or any(factor not in fields for factor in behind):
            return None
        terms[(first, behind)] = terms.get((first, behind), 0) + coefficient
    return terms


def random_sketch(source):
    """A sketch of any form, with numbers from a source of random numbers."""
    names = ["a", "b", "c", "d", "e", "f", "end", "item", "longname", "z"]
    registers = source.sample(names, source.randrange(4))
    others = [name for name in names if name not in registers]
    starts = [(name, random_fraction(source)) for name in registers]
    kinds = []
    for kind in source.sample(names, source.randrange(1, 4)):
        fields = source.sample(others, source.randrange(3))
        updates = {name: random_terms(source, registers, fields) for name in registers if source.randrange(3)}
        kinds.append((kind, fields, updates))
    return Sketch(source.choice(names), starts, kinds, random_terms(source, registers, ()))


def random_fraction(source):
    return Fraction(source.randrange(-3, 4), source.randrange(1, 4))


def random_terms(source, registers, fields):
    keys = products_in_order(registers, fields)
    return {key: random_fraction(source) for key in source.sample(keys, source.randrange(min(6, len(keys)) + 1))}
