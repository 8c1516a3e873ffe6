"""Folds: items, results, registers, test items, equality."""

import copy
import random
import unittest

from foldparts.errors import BadItem, PartError
from foldparts.folds import Fold
from foldparts.ratios import Ratio
from reference import FULL, MEAN, SMALL, WORDS, random_sketch

AFFINE = "fold affine\n  start p = 0\n  item put x y\n    p = p*x + y\n  result p\nend"
TURNS = "fold turns\n  start s = 1\n  start t = 0\n  item x v\n    s = -s\n    t = s*v + t\n  result t\nend"
SWAP = "fold swap\n  start a = 1\n  start b = 2\n  start c = 3\n  item x\n    a = b\n    b = c\n    c = a\n  result a - b + 10*c\nend"


def texts(values):
    return [str(value) for value in values]


def nested(depth, wrap):
    value = 1
    for _ in range(depth):
        value = wrap(value)
    return value


class Results(unittest.TestCase):
    def test_example_of_the_document(self):
        fold = Fold.parse(MEAN)
        result = fold([("sale", (3,)), ("sale", (4,))])
        self.assertIs(type(result), Ratio)
        self.assertEqual(str(result), "13")
        self.assertEqual(str(fold(row=[("sale", (3,)), ("back", (5,)), ("sale", (4,))])), "7/2")

    def test_empty_row(self):
        for text, result, registers in [
            (MEAN, "0", ["0", "0"]), (SMALL, "0", []), (FULL, "5/14", ["-1/2", "12", "0"]), (SWAP, "29", ["1", "2", "3"]),
        ]:
            fold = Fold.parse(text)
            self.assertEqual(str(fold([])), result)
            self.assertIs(type(fold.registers_after([])), tuple)
            self.assertEqual(texts(fold.registers_after([])), registers)

    def test_no_register(self):
        fold = Fold.parse("fold f\n  item x v\n  item y\n  result -5/3\nend")
        for row in ([], [("x", (7,))], [("y", ()), ("x", (-1000,))] * 3):
            self.assertEqual(str(fold(row)), "-5/3")
            self.assertEqual(fold.registers_after(row), ())

    def test_new_values_are_all_from_old_ones(self):
        fold = Fold.parse(SWAP)
        for many, registers, result in [(1, "231", "9"), (2, "312", "22"), (3, "123", "29")]:
            row = [("x", ())] * many
            self.assertEqual(texts(fold.registers_after(row)), list(registers))
            self.assertEqual(str(fold(row)), result)

    def test_the_order_of_the_items_counts(self):
        fold = Fold.parse(AFFINE)
        self.assertEqual(str(fold([("put", (2, 3)), ("put", (5, 7))])), "22")
        self.assertEqual(str(fold([("put", (5, 7)), ("put", (2, 3))])), "17")
        self.assertEqual(texts(fold.registers_after(row=[("put", (2, 3)), ("put", (-5, 7))])), ["-8"])

    def test_alternating(self):
        fold = Fold.parse(TURNS)
        row = [("x", (10,)), ("x", (3,)), ("x", (1,))]
        self.assertEqual(texts(fold.registers_after(row)), ["-1", "8"])
        self.assertEqual(str(fold(row)), "8")

    def test_every_product_of_fields(self):
        for text, values, result in [
            ("1", (3, 5), "1"), ("f", (3, 5), "3"), ("g", (3, 5), "5"), ("f*f", (3, 5), "9"), ("f*g", (3, 5), "15"),
            ("g*g", (3, 5), "25"), ("s", (3, 5), "1/7"), ("s*f", (3, 5), "3/7"), ("s*g", (3, 5), "5/7"),
            ("s*f*f", (3, 5), "9/7"), ("s*f*g", (3, 5), "15/7"), ("s*g*g", (3, 5), "25/7"),
            ("-2/3*s*f*g + 1/2 - g*g", (3, 7), "-101/2"), ("-s*g", (0, -14), "2"), ("0", (3, 5), "0"),
        ]:
            fold = Fold.parse(f"fold x\n  start s = 1/7\n  start t = 0\n  item k f g\n    t = {text}\n  result t\nend")
            self.assertEqual(str(fold([("k", values)])), result)

    def test_the_full_form(self):
        fold = Fold.parse(FULL)
        rows = [("x", (2, -3)), ("y", ()), ("item", (5,)), ("x", (0, 1))]
        self.assertEqual(texts(fold.registers_after(rows[:1])), ["-611/12", "12", "0"])
        self.assertEqual(texts(fold.registers_after(rows[:2])), ["-611/12", "3", "0"])
        self.assertEqual(texts(fold.registers_after(rows[:3])), ["-25", "15/4", "7"])
        self.assertEqual(texts(fold.registers_after(rows)), ["731/12", "15/4", "0"])
        self.assertEqual(str(fold(rows[:3])), "593/14")

    def test_random_folds_and_rows(self):
        source = random.Random(4)
        for _ in range(250):
            sketch = random_sketch(source)
            fold = Fold.parse(sketch.text())
            for length in (0, 1, 2, 3, 7):
                row = []
                for _ in range(length):
                    kind, fields, updates = source.choice(sketch.kinds)
                    row.append((kind, tuple(source.choice([-1000, 1000, 0, 1, -2, 37]) for field in fields)))
                self.assertEqual(texts(fold.registers_after(row)), texts(sketch.registers_after(row)))
                self.assertEqual(str(fold(row)), str(sketch.result(row)))

    def test_long_rows(self):
        self.assertEqual(str(Fold.parse(MEAN)([("sale", (1000,)), ("back", (-1,))] * 2500)), "5005000")
        doubled = Fold.parse("fold f\n  start s = 1\n  item x v\n    s = 2*s + v\n  result s\nend")
        self.assertTrue(str(doubled([("x", (0,))] * 20000)) == str(Ratio(2 ** 20000, 1)))

    def test_numbers_of_a_thousand_digits(self):
        great = "7" * 1000
        fold = Fold.parse(f"fold f\n  start s = -{great}\n  item x v\n    s = {great}*s*v - 1/{great}\n  result {great}*s\nend")
        value = -int("7" * 1000) ** 2 * 3
        self.assertEqual(fold.registers_after([("x", (3,))])[0], Ratio(value, 1) - Ratio(1, int(great)))
        self.assertEqual(fold([("x", (3,))]), Ratio(value * int(great) - 1, 1))


class BadItems(unittest.TestCase):
    def assert_bad(self, fold, row, index):
        for called in (fold, fold.registers_after):
            for caught in (BadItem, PartError, ValueError):
                with self.assertRaises(caught) as found:
                    called(row)
                self.assertEqual(found.exception.index, index)

    def bad_items(self):
        return [
            0, 1, -7, 10 ** 30, True, False, None, "", "sale", "sale 3", Ratio(1, 1), [], {}, (), ("sale",), ("sale", (3,), 4),
            ["sale", (3,)], ("sale", [3]), ["sale", [3]], ("sale", 3), ("sale", "3"), ("sale", None), ("sale", {3: 3}),
            ("sale", ()), ("sale", (3, 4)), ("sale", ("3",)), ("sale", (None,)), ("sale", (True,)), ("sale", (False,)),
            ("sale", (Ratio(3, 1),)), ("sale", ((3,),)), ("sale", ([3],)), ("sale", (-1001,)), ("sale", (1001,)),
            ("sale", (10 ** 5000,)), ("sale", (-10 ** 5000,)), ("sold", (3,)), ("Sale", (3,)), ("sale ", (3,)), ("", (3,)),
            ("mean", (3,)), ("price", (3,)), ("total", (3,)), (None, (3,)), (0, (3,)), (True, (3,)), (("sale",), (3,)),
            (["sale"], (3,)), ({}, (3,)), (Ratio(1, 1), (3,)), ((3,), "sale"), {"sale": (3,)}, {0: "sale", 1: (3,)},
            [("sale", (3,))], (("sale", (3,)),), ("sale", (3,)) * 2, {"kind": "sale", "values": (3,)},
            nested(50, lambda value: [value]), nested(50, lambda value: (value,)), nested(50, lambda value: {"a": value}),
            ("sale", nested(48, lambda value: (value,))), (nested(48, lambda value: [value]), (3,)),
            nested(50, lambda value: ("sale", value)),
        ]

    def test_each_alone_and_at_every_place(self):
        fold = Fold.parse(MEAN)
        good = [("sale", (3,)), ("back", (-1000,)), ("sale", (1000,))]
        for item in self.bad_items():
            with self.subTest(item=item):
                self.assert_bad(fold, [item], 0)
                self.assertIs(fold.has_item(item), False)
                for at in range(4):
                    self.assert_bad(fold, good[:at] + [item] + good[at:], at)

    def test_the_first_one_counts(self):
        fold = Fold.parse(MEAN)
        self.assert_bad(fold, [("sale", (3,)), None, ("sale", (1001,))], 1)
        self.assert_bad(fold, [("sale", (1001,)), None], 0)
        self.assert_bad(fold, [("sale", (3,))] * 500 + [("sale", ())] + [7], 500)

    def test_limits_of_the_values(self):
        fold = Fold.parse(AFFINE)
        for first in (-1001, -1000, 0, 1000, 1001):
            for second in (-1001, -1000, 0, 1000, 1001):
                item = ("put", (first, second))
                if 1001 in (abs(first), abs(second)):
                    self.assert_bad(fold, [item], 0)
                else:
                    self.assertEqual(str(fold([item])), str(second))
                    self.assertIs(fold.has_item(item), True)

    def test_the_number_of_values_is_that_of_the_kind(self):
        fold = Fold.parse("fold f\n  start s = 0\n  item a\n    s = 1\n  item b v\n    s = v\n  item c v w\n    s = w\n  result s\nend")
        for kind, many in (("a", 0), ("b", 1), ("c", 2)):
            for count in range(4):
                row = [(kind, (5,) * count)]
                if count == many:
                    self.assertEqual(str(fold(row)), "5" if many else "1")
                else:
                    self.assert_bad(fold, row, 0)

    def test_values_of_one_place_that_are_no_integers(self):
        fold = Fold.parse(AFFINE)
        for value in (True, False, None, "1", (), [], {}, Ratio(1, 1), 1001, -1001):
            self.assert_bad(fold, [("put", (value, 1))], 0)
            self.assert_bad(fold, [("put", (1, value))], 0)

    def test_an_item_of_another_fold(self):
        self.assert_bad(Fold.parse(SMALL), [("x", ()), ("x", (1,))], 1)
        self.assert_bad(Fold.parse(TURNS), [("x", (1,)), ("sale", (1,))], 1)


class TestItems(unittest.TestCase):
    def test_all_numbers_of_fields(self):
        fold = Fold.parse("fold f\n  item two v w\n  item none\n  item one v\n  result 0\nend")
        self.assertEqual(fold.test_items(), [
            ("two", (0, 0)), ("two", (0, 1)), ("two", (0, 2)), ("two", (1, 0)), ("two", (1, 1)), ("two", (2, 0)),
            ("none", ()), ("one", (0,)), ("one", (1,)), ("one", (2,)),
        ])

    def test_others(self):
        self.assertEqual(Fold.parse(SMALL).test_items(), [("x", ())])
        self.assertEqual(Fold.parse(MEAN).test_items(), [
            ("sale", (0,)), ("sale", (1,)), ("sale", (2,)), ("back", (0,)), ("back", (1,)), ("back", (2,)),
        ])
        self.assertEqual(Fold.parse(WORDS).test_items(), [
            *[("start", values) for values in ((0, 0), (0, 1), (0, 2), (1, 0), (1, 1), (2, 0))],
            ("result", ()), ("end", ()),
        ])

    def test_a_new_list_of_items_each_time(self):
        fold = Fold.parse(FULL)
        first = fold.test_items()
        self.assertIs(type(first), list)
        second = fold.test_items()
        self.assertIsNot(first, second)
        first.clear()
        self.assertEqual(fold.test_items(), second)
        fold(second)
        for kind, values in second:
            self.assertEqual((type(kind), type(values)), (str, tuple))

    def test_steps_are_combinations_of_those_of_the_test_items(self):
        source = random.Random(6)
        for _ in range(40):
            sketch = random_sketch(source)
            fold = Fold.parse(sketch.text())
            for kind, fields, updates in sketch.kinds:
                values = tuple(source.randrange(-1000, 1001) for field in fields)
                sums = [Ratio(0, 1) for start in sketch.starts]
                for item in fold.test_items():
                    if item[0] == kind:
                        weight = item_weight(values, item[1])
                        after = fold.registers_after([item])
                        sums = [total + weight * value for total, value in zip(sums, after)]
                self.assertEqual(list(fold.registers_after([(kind, values)])), sums)


def item_weight(values, test_values):
    """The weight of point 22, with which the step of a test item is in that of an item."""
    if len(values) == 0:
        weight, below = 1, 1
    elif len(values) == 1:
        v = values[0]
        weight, below = [((v - 1) * (v - 2), 2), (v * (2 - v), 1), (v * (v - 1), 2)][test_values[0]]
    else:
        f, g = values
        s = f + g
        weight, below = {(0, 0): ((1 - s) * (2 - s), 2), (0, 1): (g * (2 - s), 1), (0, 2): (g * (g - 1), 2),
                         (1, 0): (f * (2 - s), 1), (1, 1): (f * g, 1), (2, 0): (f * (f - 1), 2)}[test_values]
    return Ratio(weight, below)


class Equality(unittest.TestCase):
    def test_equal_exactly_if_the_texts_are(self):
        source = random.Random(2)
        texts = [MEAN, FULL, WORDS, SMALL, AFFINE, TURNS, SWAP, MEAN.replace("1/2*", ""), MEAN.replace("mean", "other"),
                 MEAN.replace("total = 0", "total = 1"), MEAN.replace("price", "cost"), SMALL.replace("result 0", "result 1"),
                 SMALL.replace("item x", "item y"), SMALL.replace("item x", "item x\n  item y"), SMALL.replace("item x", "item x v")]
        texts += [random_sketch(source).text() for _ in range(10)]
        for one in texts:
            for other in texts:
                self.assertIs(Fold.parse(one) == Fold.parse(other), one == other)
                self.assertIs(Fold.parse(one) != Fold.parse(other), one != other)

    def test_same_results_are_not_enough(self):
        one = Fold.parse("fold f\n  item x\n  result 0\nend")
        other = Fold.parse("fold f\n  start s = 0\n  item x\n  result s\nend")
        self.assertEqual(str(one([])), str(other([])))
        self.assertTrue(one != other)
        self.assertFalse(one == other)

    def test_no_other_value_is_equal(self):
        fold = Fold.parse(SMALL)
        for other in (SMALL, "f", None, 0, True, (), [], {}, Ratio(0, 1), ("f", (), (("x", ()),)), object()):
            self.assertIs(fold == other, False)
            self.assertIs(other == fold, False)
            self.assertIs(fold != other, True)
            self.assertIs(other != fold, True)


class NothingChanges(unittest.TestCase):
    def test_no_argument_is_changed(self):
        fold = Fold.parse(MEAN)
        row = [("sale", (3,)), ("back", (4,))]
        for bad in ([], [("sale", (1001,))], [["sale", [3]]], [{"a": [1, (2,)]}, None]):
            given = row + bad
            before = copy.deepcopy(given)
            for called in (fold, fold.registers_after):
                try:
                    called(given)
                except BadItem as error:
                    self.assertEqual(error.index, 2)
                self.assertEqual(given, before)

    def test_a_fold_is_the_same_after_any_calls(self):
        fold = Fold.parse(FULL)
        row = [("x", (2, -3)), ("y", ()), ("item", (5,))]
        parts = (fold.name, fold.registers, fold.kinds, str(fold), fold.test_items())
        results = (fold([]), fold(row), fold.registers_after(row), fold.registers_after([]))
        before = [str(result) for result in results[:2]] + [texts(values) for values in results[2:]]
        for _ in range(2):
            fold(row * 3)
            fold.registers_after(row * 2)
            fold.test_items().append("more")
            for called in (fold, fold.registers_after):
                with self.assertRaises(BadItem):
                    called(row + [7])
            fold == Fold.parse(MEAN), fold != FULL
            after = (fold([]), fold(row), fold.registers_after(row), fold.registers_after([]))
            self.assertEqual(after, results)
            self.assertEqual((fold.name, fold.registers, fold.kinds, str(fold), fold.test_items()), parts)
        self.assertEqual([str(result) for result in results[:2]] + [texts(values) for values in results[2:]], before)

    def test_the_row_may_change_afterwards(self):
        fold = Fold.parse(MEAN)
        row = [("sale", (3,))]
        registers = fold.registers_after(row)
        row.append(("sale", (4,)))
        row[0] = None
        self.assertEqual(texts(registers), ["3", "1"])

    def test_two_folds_of_one_text_are_apart(self):
        one, other = Fold.parse(AFFINE), Fold.parse(AFFINE)
        one([("put", (3, 4))])
        self.assertEqual(str(other([])), "0")
        self.assertTrue(one == other)

    def test_the_parts_are_tuples(self):
        fold = Fold.parse(FULL)
        for value in (fold.registers, *fold.registers, fold.kinds, *fold.kinds, *[fields for kind, fields in fold.kinds]):
            self.assertIs(type(value), tuple)
        for name, start in fold.registers:
            self.assertIs(type(start), Ratio)


if __name__ == "__main__":
    unittest.main()
