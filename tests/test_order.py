"""Points 3, 6 and 15: whether the order of the items matters."""

import copy
import random
import unittest
from itertools import permutations

from foldparts.folds import Fold
from foldparts.order import is_order_example, order_example
from foldparts.ratios import Ratio
from reference import FULL, MEAN, SMALL, random_sketch
from searches import (
    AFFINE, CONSTANT, DELAY, IDLE, LATE, MOMENT, PAIRS, PRODUCT, SWAP, TRIPLES, TURNS, VARIANCE, Results, any_row, items_of, rows_up_to,
    small_sketch,
)
from test_width import nested, no_items

# The order matters only behind a row in front of the two items, and only with a row behind them.
LOCKED = "\n".join([
    "fold locked", "  start a = 1", "  start b = 0", "  start c = 0", "  item open", "    b = a", "  item x v",
    "    c = b*v - c", "  result c", "end",
])
HIDDEN = "\n".join([
    "fold hidden", "  start a = 1", "  start b = 0", "  start c = 0", "  item x v", "    a = 2*a", "    b = a*v + b",
    "  item tell", "    c = b", "  result c", "end",
])
DEEP = "\n".join([
    "fold deep", "  start a = 0", "  start b = 0", "  start c = 0", "  item set", "    a = 1", "    b = 0", "  item swap",
    "    a = -a", "    b = a", "  item tell", "    c = b", "  result c", "end",
])
GATE = "\n".join([
    "fold gate", "  start a = 1", "  start b = 0", "  item x", "    a = 0", "    b = a", "  item y", "    b = 2*b",
    "  result b", "end",
])
# Here it matters only with rows on both sides.
HALL = "\n".join([
    "fold hall", "  start a = 0", "  start b = 0", "  start c = 0", "  item x", "    b = 0", "    c = 0", "  item y",
    "    a = -1", "    b = a + b", "    c = -b", "  result -a - c", "end",
])
MAZE = "\n".join([
    "fold maze", "  start a = 0", "  start b = 1", "  start c = 0", "  item x", "    a = b", "    b = a + 2*b", "    c = a",
    "  item y", "    a = 0", "    b = -a + b - 1", "    c = 0", "  result -c", "end",
])


def matters_by_search(sketch, longest):
    """Whether some rows of test items show that the order matters."""
    results = Results(sketch)
    items = items_of(sketch)
    for front in rows_up_to(items, longest):
        for back in rows_up_to(items, longest):
            for a in items:
                for b in items:
                    if results(front + [a, b] + back) != results(front + [b, a] + back):
                        return True
    return False


class OrderExample(unittest.TestCase):
    def assert_matters(self, fold):
        found = order_example(fold)
        self.assertIs(type(found), tuple)
        u, a, b, v = found
        for row in (u, v):
            self.assertIs(type(row), list)
            self.assertLessEqual(len(row), 3)
        for item in [*u, a, b, *v]:
            self.assertIn(item, fold.test_items())
        self.assertTrue(fold(u + [a, b] + v) != fold(u + [b, a] + v))
        self.assertIs(is_order_example(fold, found), True)
        return found

    def test_it_does_not_matter(self):
        for text in [MEAN, SMALL, VARIANCE, PRODUCT, CONSTANT, IDLE, SWAP, TRIPLES]:
            self.assertIsNone(order_example(Fold.parse(text)), text)
        for text in [
            "fold f\n  start p = 3\n  item x v w\n    p = p*v*w\n  item y v\n    p = p + 2*p*v\n  result p\nend",
            "fold f\n  start s = 1\n  start t = 1\n  item x v\n    s = s + t*v\n  result s\nend",
            "fold f\n  start s = 1\n  start t = 1\n  item x v\n    s = s + t*v\n    t = t*v\n  result 7\nend",
            "fold f\n  start s = 1\n  start t = 1\n  item x v\n    s = s*v\n    t = s*v + t\n  result s\nend",
        ]:
            self.assertIsNone(order_example(Fold.parse(text)), text)

    def test_it_matters(self):
        for text in [AFFINE, TURNS, DELAY, LATE, PAIRS, MOMENT, FULL, LOCKED, HIDDEN, DEEP, GATE]:
            self.assert_matters(Fold.parse(text))

    def test_only_behind_a_row_and_with_a_row_behind(self):
        u, a, b, v = self.assert_matters(Fold.parse(LOCKED))
        self.assertIn(("open", ()), [*u, a, b])
        u, a, b, v = self.assert_matters(Fold.parse(DEEP))
        self.assertIn(("set", ()), [*u, a, b])
        self.assertIn(("tell", ()), [a, b, *v])
        u, a, b, v = self.assert_matters(Fold.parse(HIDDEN))
        self.assertIn(("tell", ()), [a, b, *v])

    def test_only_with_rows_on_both_sides(self):
        for text in (HALL, MAZE):
            fold = Fold.parse(text)
            u, a, b, v = self.assert_matters(fold)
            self.assertTrue(u != [] and v != [])
            for row in rows_up_to(fold.test_items(), 4):
                self.assertTrue(fold(row + [a, b]) == fold(row + [b, a]))
                self.assertTrue(fold([a, b] + row) == fold([b, a] + row))

    def test_against_all_rows(self):
        source = random.Random(15)
        found = 0
        for _ in range(80):
            sketch = small_sketch(source, 4, 2)
            fold = Fold.parse(sketch.text())
            matters = matters_by_search(sketch, 2)
            self.assertEqual(order_example(fold) is not None, matters, sketch.text())
            if matters:
                self.assert_matters(fold)
                found += 1
        self.assertTrue(20 < found < 70, found)

    def test_random_folds(self):
        source = random.Random(16)
        for _ in range(60):
            fold = Fold.parse(random_sketch(source).text())
            if order_example(fold) is None:
                for _ in range(5):
                    row = any_row(source, fold, 4)
                    self.assertEqual(len({str(fold(list(one))) for one in permutations(row)}), 1)
            else:
                self.assert_matters(fold)

    def test_new_each_time(self):
        fold = Fold.parse(DEEP)
        found = order_example(fold=fold)
        before = copy.deepcopy(found)
        found[0].append(7)
        found[3].append(8)
        self.assertIsNot(found[0], found[3])
        self.assertEqual(order_example(fold), before)
        self.assertEqual(str(fold), DEEP)


class IsOrderExample(unittest.TestCase):
    def test_example_of_the_document(self):
        fold = Fold.parse(TURNS)
        self.assertIs(is_order_example(fold, ([], ("x", (1,)), ("x", (2,)), [])), True)
        self.assertIs(is_order_example(fold=fold, value=([], ("x", (1,)), ("x", (2,)), [])), True)

    def test_items_that_are_no_test_items(self):
        fold = Fold.parse(TURNS)
        row = [("x", (-1000,)), ("x", (1000,))] * 4
        self.assertIs(is_order_example(fold, (row, ("x", (77,)), ("x", (-1000,)), row)), True)
        self.assertIs(is_order_example(fold, (row, ("x", (77,)), ("x", (77,)), row)), False)
        fold = Fold.parse(DEEP)
        self.assertIs(is_order_example(fold, ([("set", ())], ("swap", ()), ("set", ()), [("tell", ())])), True)
        self.assertIs(is_order_example(fold, ([("set", ())], ("swap", ()), ("set", ()), [])), False)
        self.assertIs(is_order_example(fold, ([], ("swap", ()), ("swap", ()), [("tell", ())])), False)

    def test_one_thing_changed(self):
        for text in (TURNS, DEEP, AFFINE, FULL):
            fold = Fold.parse(text)
            u, a, b, v = order_example(fold)
            self.assertIs(is_order_example(fold, (u, a, b, v)), True)
            others = [
                (u, a, b), (a, b, v), (u, a, b, v, v), (u, a, b, v, []), ((u, a, b, v),), [u, a, b, v], [(u, a, b, v)],
                (tuple(u), a, b, v), (u, a, b, tuple(v)), (u, list(a), b, v), (u, a, list(b), v), (u, [a], b, v), (u, a, [b], v),
                (u, (a[0], list(a[1])), b, v), (u, a, a, v), (u, b, b, v), (a, u, b, v), (u, a, v, b), (u, (a, b), v),
                (u, [a, b], v), (u, a, b, v[0] if v else None), (None, a, b, v), (u, a, b, None), (u, a, b, {}), ({}, a, b, v),
                ("", a, b, v), (u, a, b, ""), (u + [[]], a, b, v), (u, a, b, [v]), ([u], a, b, v), {"u": u, "a": a, "b": b, "v": v},
            ]
            for other in others:
                self.assertIs(is_order_example(fold, other), False)

    def test_things_that_are_no_items(self):
        fold = Fold.parse(TURNS)
        a, b, c = ("x", (1,)), ("x", (2,)), ("x", (3,))
        self.assertIs(is_order_example(fold, ([c], a, b, [c])), True)
        for item in no_items():
            for other in [
                ([item], a, b, [c]), ([c, item], a, b, [c]), ([c], item, b, [c]), ([c], a, item, [c]), ([c], item, item, [c]),
                ([c], a, b, [item]), ([c], a, b, [c, item, c]),
            ]:
                self.assertIs(is_order_example(fold, other), False)

    def test_items_of_the_same_effect(self):
        source = random.Random(17)
        for text in (MEAN, VARIANCE, PRODUCT, SMALL):
            fold = Fold.parse(text)
            for _ in range(10):
                rows = any_row(source, fold, 3), any_row(source, fold, 3)
                items = (any_row(source, fold, 2) + fold.test_items())[:2]
                self.assertIs(is_order_example(fold, (rows[0], items[0], items[-1], rows[1])), False)

    def test_any_other_value(self):
        for text in (TURNS, SMALL):
            fold = Fold.parse(text)
            for value in no_items() + [
                [], (), [[]], ((), (), (), ()), ([], [], [], []), (None,) * 4, (0, 1, 2, 3), "abcd", ([], "", "", []), (True,) * 4,
                ([], 0, 1, []), [[], ("x", (1,)), ("x", (2,)), []], {0: [], 1: (), 2: (), 3: []}, (Ratio(1, 2),) * 4, (1, 2),
                nested(49, lambda one: ([], one, one, [])), ([], nested(48, lambda one: [one]), nested(48, lambda one: (one,)), []),
            ]:
                self.assertIs(is_order_example(fold, value), False)

    def test_the_value_does_not_change(self):
        fold = Fold.parse(TURNS)
        for value in [
            ([("x", (5,))], ("x", (1,)), ("x", (2,)), [("x", (6,))]), ([("x", (5,))], ("x", (1,)), ("x", (2,)), [("x", [6])]),
            [[["x"]], {"a": [1]}], ([7], [7], [7], [7]),
        ]:
            before = copy.deepcopy(value)
            is_order_example(fold, value)
            self.assertEqual(value, before)
        self.assertEqual(str(fold), TURNS)


if __name__ == "__main__":
    unittest.main()
