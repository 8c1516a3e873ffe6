"""Points 3 and 14: whether two folds are the same."""

import copy
import random
import unittest
from fractions import Fraction

from foldparts.alike import difference
from foldparts.errors import OtherKinds, PartError
from foldparts.folds import Fold
from foldparts.ratios import Ratio
from reference import FULL, MEAN, SMALL, WORDS, Sketch, random_fraction, random_sketch
from searches import DELAY, EXAMPLES, LATE, MOMENT, SWAP, TURNS, any_row, ratio_of, sketch_of, small_sketch


def scaled(sketch, name, factor):
    """The same fold with a register that is always the factor times as great."""
    def terms_of(terms, changed):
        return {key: number * (factor if changed else 1) / (factor if key[0] == name else 1) for key, number in terms.items()}

    kinds = []
    for kind, fields, updates in sketch.kinds:
        kinds.append((kind, fields, {one: terms_of(terms, one == name) for one, terms in updates.items()}))
    starts = [(one, value * (factor if one == name else 1)) for one, value in sketch.starts]
    return Sketch(sketch.name, starts, kinds, terms_of(sketch.final, False))


def renamed(sketch):
    """The same fold under another name, with other names of registers and fields."""
    registers = {name: "qwe"[at] * 3 for at, (name, value) in enumerate(sketch.starts)} | {"": ""}

    def terms_of(terms, inside):
        return {(registers[name], tuple(inside[field] for field in fields)): number for (name, fields), number in terms.items()}

    kinds = []
    for kind, fields, updates in sketch.kinds:
        inside = {field: "xy"[at] * 5 for at, field in enumerate(fields)}
        fresh = {registers[name]: terms_of(terms, inside) for name, terms in updates.items()}
        kinds.append((kind, [inside[field] for field in fields], fresh))
    starts = [(registers[name], value) for name, value in sketch.starts]
    return Sketch("other", starts, kinds, terms_of(sketch.final, {}))


def reversed_registers(sketch):
    return Sketch(sketch.name, sketch.starts[::-1], sketch.kinds, sketch.final)


def with_idle_register(sketch):
    """The same fold with one register more, that no result needs and that changes with each item."""
    kinds = []
    for kind, fields, updates in sketch.kinds:
        terms = {("idle", ()): Fraction(3), ("", ()): Fraction(1, 2)}
        if sketch.starts:
            terms[(sketch.starts[0][0], ())] = Fraction(-1)
        kinds.append((kind, fields, {**updates, "idle": terms}))
    return Sketch(sketch.name, sketch.starts + [("idle", Fraction(5))], kinds, sketch.final)


def powers_fold(factors, weights):
    """A fold whose result after n items is the sum of weight * factor**n, and of the last weight."""
    registers = [(name, Fraction(1)) for name in "abc"[:len(factors)]]
    updates = {name: {(name, ()): Fraction(factor)} for (name, one), factor in zip(registers, factors)}
    final = {(name, ()): weight for (name, one), weight in zip(registers, weights)}
    final[("", ())] = weights[-1]
    return Fold.parse(Sketch("powers", registers, [("x", (), updates)], final).text())


def solved(rows, values):
    """The solution of as many equations as unknown Fractions, by elimination."""
    table = [[Fraction(number) for number in row] + [Fraction(value)] for row, value in zip(rows, values)]
    for at in range(len(table)):
        chosen = next(k for k in range(at, len(table)) if table[k][at] != 0)
        table[at], table[chosen] = table[chosen], table[at]
        table[at] = [number / table[at][at] for number in table[at]]
        for k in range(len(table)):
            if k != at:
                table[k] = [number - table[k][at] * less for number, less in zip(table[k], table[at])]
    return [row[-1] for row in table]


class DifferenceTest(unittest.TestCase):
    def assert_same(self, first, second):
        self.assertIsNone(difference(first, second))
        self.assertIsNone(difference(second, first))

    def assert_different(self, first, second):
        for one, other in ((first, second), (second, first)):
            row = difference(one, other)
            self.assertIs(type(row), list)
            self.assertLessEqual(len(row), 6)
            for item in row:
                self.assertIn(item, one.test_items())
            self.assertTrue(one(row) != other(row))
        return row


class Same(DifferenceTest):
    def test_a_fold_and_itself(self):
        for text in [MEAN, FULL, SMALL, WORDS, *EXAMPLES]:
            fold = Fold.parse(text)
            self.assert_same(fold, fold)
            self.assert_same(fold, Fold.parse(text))

    def test_no_register(self):
        one = Fold.parse("fold f\n  item x v\n  item y\n  result 2/3\nend")
        other = Fold.parse("fold g\n  item x w\n  item y\n  result 2/3\nend")
        self.assert_same(one, other)
        self.assert_same(one, Fold.parse("fold f\n  start s = 2\n  item x v\n  item y\n  result 1/3*s\nend"))
        self.assert_different(one, Fold.parse(str(other).replace("2/3", "-2/3")))

    def test_written_in_other_ways(self):
        source = random.Random(14)
        sketches = [sketch_of(text) for text in [MEAN, FULL, *EXAMPLES]] + [random_sketch(source) for _ in range(40)]
        for sketch in sketches:
            fold = Fold.parse(sketch.text())
            ways = [renamed(sketch), reversed_registers(sketch)]
            ways += [scaled(sketch, name, Fraction(-7, 3)) for name, value in sketch.starts]
            if len(sketch.starts) < 3:
                ways.append(with_idle_register(sketch))
            for way in ways:
                self.assert_same(fold, Fold.parse(way.text()))

    def test_the_same_number_kept_in_two_ways(self):
        one = Fold.parse("fold f\n  start s = 0\n  item x v\n    s = s + 2*v\n  result s\nend")
        other = Fold.parse(
            "fold f\n  start s = 1\n  start t = -1\n  item x v\n    s = s + v - v*v\n    t = t + v + v*v\n  result s + t\nend")
        self.assert_same(one, other)
        self.assert_different(one, Fold.parse(str(other).replace("v*v\n  result", "2*v*v\n  result")))

    def test_registers_that_come_out_even(self):
        one = Fold.parse("fold f\n  start s = 1\n  start t = 1\n  item x\n    s = t\n    t = s\n  result s\nend")
        self.assert_same(one, Fold.parse("fold f\n  item x\n  result 1\nend"))
        self.assert_different(one, Fold.parse("fold f\n  start s = 1\n  item x\n    s = 1/2*s + 1\n  result s\nend"))


class Different(DifferenceTest):
    def test_example_of_the_document(self):
        fold = Fold.parse(MEAN)
        other = Fold.parse(str(fold).replace("1/2*", ""))
        row = difference(fold, other)
        self.assertEqual(fold(row) == other(row), False)
        self.assert_different(fold, other)

    def test_one_thing_changed(self):
        fold = Fold.parse(MEAN)
        for old, new in [
            ("total + price", "total + 2*price"), ("total + price", "total + price + price*price"), ("total + price", "total"),
            ("many - 1", "many - 2"), ("many - 1", "total - 1"), ("many = 0", "many = 1/7"), ("total = 0", "total = 1"),
            ("2*total -", "3*total -"), ("- 1/2*many", "- 1/2*many + 1"), ("2*total - 1/2*many", "0"),
        ]:
            text = MEAN.replace("    total = total + price\n", "") if new == "total" else MEAN.replace(old, new, 1)
            self.assertNotEqual(text, MEAN)
            self.assert_different(fold, Fold.parse(text))

    def test_every_number_of_many_folds(self):
        source = random.Random(140)
        found = 0
        for _ in range(60):
            sketch = small_sketch(source, 8)
            fold = Fold.parse(sketch.text())
            changed = copy.deepcopy(sketch)
            sums = [changed.final] + [terms for kind, fields, updates in changed.kinds for terms in updates.values()]
            terms = source.choice(sums)
            terms[source.choice(list(terms))] = random_fraction(source)
            other = Fold.parse(changed.text())
            if difference(fold, other) is None:
                for _ in range(30):
                    row = any_row(source, fold, 7)
                    self.assertEqual(fold(row), other(row))
            else:
                self.assert_different(fold, other)
                found += 1
        self.assertGreater(found, 25)

    def test_only_after_some_items(self):
        delay = Fold.parse(DELAY)
        self.assertEqual(len(self.assert_different(delay, Fold.parse(DELAY.replace("b = a", "b = 2*a")))), 3)
        late = Fold.parse(LATE)
        row = self.assert_different(late, Fold.parse(LATE.replace("    a = 2*a", "    a = 3*a")))
        self.assertEqual(row, [("stay", ()), ("go", ()), ("go", ())])
        swap = Fold.parse(SWAP)
        self.assertEqual(len(self.assert_different(swap, Fold.parse(SWAP.replace("start c = 3", "start c = 2")))), 2)

    def test_first_after_six_items(self):
        factors = [1, 2, 3, 4, -1, -2, -3]
        for last in range(7):
            found = solved([[factor ** n for factor in factors] for n in range(7)], [n == last for n in range(7)])
            first = powers_fold(factors[1:4], found[1:4] + [found[0]])
            second = powers_fold(factors[4:], [-number for number in found[4:]] + [Fraction(0)])
            for n in range(7):
                self.assertEqual(first([("x", ())] * n) - second([("x", ())] * n), Ratio(n == last, 1))
            self.assertEqual(self.assert_different(first, second), [("x", ())] * last)

    def test_great_numbers(self):
        one = Fold.parse(MEAN.replace("1/2*", "9999999999/9999999998*"))
        self.assert_different(one, Fold.parse(MEAN.replace("1/2*", "9999999998/9999999997*")))

    def test_every_result_is_the_same_if_there_is_no_difference(self):
        source = random.Random(41)
        for _ in range(40):
            sketch = small_sketch(source, 8, 2)
            fold, other = Fold.parse(sketch.text()), Fold.parse(with_idle_register(sketch).text())
            self.assert_same(fold, other)
            row = any_row(source, fold, 10)
            self.assertEqual(fold(row), other(row))
            self.assertEqual(fold(row), ratio_of(sketch.result(row)))


class Kinds(DifferenceTest):
    def test_other_kinds(self):
        fold = Fold.parse(MEAN)
        for text in [
            MEAN.replace("item sale", "item sold"), MEAN.replace("item back", "item sale", 1).replace("item sale", "item back", 1),
            MEAN.replace("item back price", "item back price less"), SMALL, FULL, WORDS, TURNS,
            "fold f\n  item sale price\n  result 0\nend", "fold f\n  item sale price\n  item back\n  result 0\nend",
            "fold f\n  item sale price\n  item back price\n  item more\n  result 0\nend",
            "fold f\n  item more\n  item sale price\n  item back price\n  result 0\nend",
            "fold f\n  item sale\n  item back price\n  result 0\nend",
        ]:
            other = Fold.parse(text)
            for one, two in ((fold, other), (other, fold)):
                for caught in (OtherKinds, PartError, ValueError):
                    with self.assertRaises(caught):
                        difference(one, two)

    def test_other_names_do_not_matter(self):
        fold = Fold.parse(MEAN)
        text = "fold other\n  item sale a\n  item back b\n  result 0\nend"
        self.assert_different(fold, Fold.parse(text))
        self.assert_same(fold, Fold.parse(MEAN.replace("price", "cost").replace("mean", "other").replace("total", "t")))


class NothingChanges(DifferenceTest):
    def test_folds_and_told_rows(self):
        first, second = Fold.parse(DELAY), Fold.parse(DELAY.replace("b = a", "b = 2*a"))
        row = difference(first=first, second=second)
        before = list(row)
        row.append(7)
        row[0] = None
        self.assertEqual(difference(second=second, first=first), before)
        self.assertEqual([str(first), str(second)], [DELAY, DELAY.replace("b = a", "b = 2*a")])
        self.assertEqual(str(first([("x", (5,))] * 3)), "5")
        with self.assertRaises(OtherKinds):
            difference(first, Fold.parse(MOMENT))
        self.assertEqual(str(first([("x", (5,))] * 3)), "5")


if __name__ == "__main__":
    unittest.main()
