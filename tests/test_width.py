"""Points 3, 6 and 9 to 13: tails, heads, kept numbers, the narrowest fold."""

import copy
import random
import unittest
from fractions import Fraction

from foldparts.errors import BadItem, PartError
from foldparts.folds import Fold
from foldparts.ratios import Ratio
from foldparts.width import heads, kept, narrowest, tails
from reference import FULL, MEAN, SMALL, WORDS, random_sketch
from searches import (
    AFFINE, CONSTANT, DELAY, EXAMPLES, IDLE, LATE, MOMENT, PAIRS, PRODUCT, SOME, SWAP, TRIPLES, TURNS, VARIANCE, Basis, Results, any_row,
    fold_and_results, fraction_of, items_of, ratio_of, rows_up_to, search_heads, search_tails, sketch_of, small_sketch, texts,
)
from test_alike import renamed, reversed_registers, scaled, with_idle_register

WIDTHS = [
    (MEAN, 1), (SMALL, 0), (AFFINE, 1), (TURNS, 2), (SWAP, 2), (DELAY, 3), (LATE, 3), (PRODUCT, 1), (VARIANCE, 1), (IDLE, 0),
    (SOME, 1), (CONSTANT, 0), (PAIRS, 2), (MOMENT, 2), (TRIPLES, 3),
]

NO_ITEMS = [
    0, 1, -7, 10 ** 30, True, False, None, "", "x", "x 3", [], {}, (), ("x",), ("x", (3,), 4), ["x", (3,)], ("x", [3]),
    ("x", 3), ("x", "3"), ("x", None), ("x", ()), ("x", (3, 4)), ("x", (True,)), ("x", (False,)), ("x", (None,)),
    ("x", ("3",)), ("x", (-1001,)), ("x", (1001,)), ("x", (10 ** 40,)), ("x", ((3,),)), ("y", (3,)), ("X", (3,)), (None, (3,)),
    (("x",), (3,)), {"x": (3,)}, [("x", (3,))],
]


def nested(depth, wrap):
    value = 1
    for _ in range(depth):
        value = wrap(value)
    return value


def no_items():
    return NO_ITEMS + [
        Ratio(1, 1), ("x", (Ratio(3, 1),)), (Ratio(1, 1), (3,)), nested(50, lambda value: [value]),
        nested(50, lambda value: (value,)), nested(50, lambda value: {"x": value}), ("x", nested(48, lambda value: (value,))),
        nested(50, lambda value: ("x", value)), (nested(48, lambda value: [value]), (3,)),
    ]


class TailsAndHeads(unittest.TestCase):
    def assert_searched(self, text, longest):
        fold, results = fold_and_results(text)
        found = search_tails(results, longest)
        self.assertEqual(tails(fold), found)
        self.assertEqual(heads(fold), search_heads(results, found, longest))

    def test_example_of_the_document(self):
        fold = Fold.parse(TURNS)
        self.assertEqual([tails(fold), heads(fold)], [[[], [("x", (1,))]], [[], [("x", (0,))], [("x", (1,))]]])
        self.assertEqual([tails(fold=fold), heads(fold=fold)], [tails(fold), heads(fold)])

    def test_by_hand(self):
        zero, one = ("x", (0,)), ("x", (1,))
        fold = Fold.parse(DELAY)
        self.assertEqual(tails(fold), [[], [zero], [zero, zero]])
        self.assertEqual(heads(fold), [[], [one], [one, zero], [one, zero, zero]])
        go, stay = ("go", ()), ("stay", ())
        fold = Fold.parse(LATE)
        self.assertEqual(tails(fold), [[], [go], [go, go]])
        self.assertEqual(heads(fold), [[], [go], [stay], [go, go]])

    def test_constant_results(self):
        for text in (CONSTANT, SMALL, IDLE):
            self.assertEqual([tails(Fold.parse(text)), heads(Fold.parse(text))], [[], [[]]])

    def test_widths(self):
        for text, width in WIDTHS:
            fold = Fold.parse(text)
            self.assertEqual((len(tails(fold)), len(heads(fold))), (width, width + 1), text)
            self.assertLessEqual(width, len(fold.registers))

    def test_examples_against_all_rows(self):
        for text in EXAMPLES:
            self.assert_searched(text, 3 if len(items_of(sketch_of(text))) < 5 else 2)

    def test_two_kinds_and_more_items_against_all_rows(self):
        for text, longest in [(MEAN, 2), (WORDS, 2), (SOME.replace("item c", "item c v w"), 2)]:
            self.assert_searched(text, longest)

    def test_random_folds_against_all_rows(self):
        source = random.Random(12)
        widths = [0, 0, 0, 0]
        for _ in range(70):
            sketch = small_sketch(source, 4)
            self.assert_searched(sketch.text(), max(1, len(sketch.starts)))
            widths[len(tails(Fold.parse(sketch.text())))] += 1
        self.assertTrue(all(many > 7 for many in widths), widths)

    def test_random_folds_with_two_fields_against_all_rows(self):
        source = random.Random(13)
        for _ in range(12):
            sketch = small_sketch(source, 7, 2)
            self.assert_searched(sketch.text(), 2)

    def test_the_empty_row_first(self):
        source = random.Random(1)
        for _ in range(60):
            fold = Fold.parse(random_sketch(source).text())
            self.assertEqual(heads(fold)[0], [])
            self.assertEqual(tails(fold)[:1], [[]] if tails(fold) else [])
            self.assertEqual(len(heads(fold)), len(tails(fold)) + 1)
            self.assertLessEqual(len(tails(fold)), len(fold.registers))

    def test_the_width_does_not_depend_on_the_form(self):
        source = random.Random(2)
        for _ in range(40):
            sketch = small_sketch(source, 8, 2)
            fold = Fold.parse(sketch.text())
            for way in (with_idle_register(sketch), reversed_registers(sketch), renamed(sketch)):
                other = Fold.parse(way.text())
                self.assertEqual([tails(other), heads(other)], [tails(fold), heads(fold)])

    def test_new_lists_each_time(self):
        for called in (tails, heads):
            fold = Fold.parse(DELAY)
            first = called(fold)
            before = copy.deepcopy(first)
            for row in first:
                row.append(7)
            first.append("more")
            self.assertEqual(called(fold), before)
            self.assertEqual(len({id(row) for row in called(fold)}), len(before))
            for row in called(fold):
                self.assertIs(type(row), list)
            self.assertEqual(str(narrowest(fold)), str(narrowest(Fold.parse(DELAY))))


class Kept(unittest.TestCase):
    def test_results_with_the_tails_behind(self):
        source = random.Random(6)
        folds = [Fold.parse(text) for text in EXAMPLES + [MEAN, FULL, WORDS]]
        folds += [Fold.parse(random_sketch(source).text()) for _ in range(25)]
        for fold in folds:
            ends = tails(fold)
            for _ in range(3):
                row = any_row(source, fold, 10)
                found = kept(fold, row)
                self.assertIs(type(found), tuple)
                self.assertEqual(found, tuple(fold(row + end) for end in ends))

    def test_by_hand(self):
        fold = Fold.parse(TURNS)
        self.assertEqual(texts(kept(fold, [])), ["0", "1"])
        self.assertEqual(texts(kept(fold=fold, row=[("x", (1000,))])), ["1000", "999"])
        self.assertEqual(texts(kept(fold, [("x", (-1000,)), ("x", (1000,))])), ["-2000", "-1999"])

    def test_no_tail(self):
        fold = Fold.parse(CONSTANT)
        self.assertEqual(kept(fold, []), ())
        self.assertEqual(kept(fold, [("x", (1000,)), ("y", ())]), ())

    def test_what_is_no_item(self):
        for text in (TURNS, "fold f\n  item x v\n  result 1/2\nend"):
            fold = Fold.parse(text)
            good = [("x", (3,)), ("x", (-1000,)), ("x", (1000,))]
            for item in no_items():
                for at in range(4):
                    for caught in (BadItem, PartError):
                        with self.assertRaises(caught) as found:
                            kept(fold, good[:at] + [item] + good[at:])
                        self.assertEqual(found.exception.index, at)
            with self.assertRaises(BadItem) as found:
                kept(fold, good * 5 + [None, 7])
            self.assertEqual(found.exception.index, 15)

    def test_the_row_does_not_change(self):
        fold = Fold.parse(TURNS)
        for bad in ([], [["x", [3]]], [{"x": (1,)}]):
            row = [("x", (3,)), ("x", (4,))] + bad
            before = copy.deepcopy(row)
            try:
                kept(fold, row)
            except BadItem as error:
                self.assertEqual(error.index, 2)
            self.assertEqual(row, before)

    def test_all_results_follow_by_linear_rules(self):
        source = random.Random(11)
        for text in EXAMPLES:
            fold, results = fold_and_results(text)
            rows = heads(fold) + [any_row(source, fold, 5, 3) for _ in range(6)]
            basis = Basis()
            for row in rows:
                basis.add([Fraction(1)] + [fraction_of(number) for number in kept(fold, row)])
            wider = Basis()
            behind = rows_up_to(fold.test_items(), 2)
            for row in rows:
                wider.add([Fraction(1)] + [fraction_of(fold(row + end)) for end in behind])
            self.assertEqual(len(basis.rows), len(wider.rows))


class Narrowest(unittest.TestCase):
    def assert_narrowest(self, fold, rows):
        found = narrowest(fold)
        self.assertIs(type(found), Fold)
        self.assertEqual((found.name, found.kinds), (fold.name, fold.kinds))
        fields = [field for kind, names in fold.kinds for field in names]
        free = [letter for letter in "abcdefghijklmnopqrstuvwxyz" if letter not in fields]
        self.assertEqual([name for name, start in found.registers], free[:len(tails(fold))])
        for row in rows:
            self.assertEqual(found.registers_after(row), kept(fold, row))
            self.assertEqual(found(row), fold(row))
        self.assertTrue(Fold.parse(str(found)) == found)
        self.assertTrue(narrowest(found) == found)
        return found

    def test_example_of_the_document(self):
        fold = Fold.parse("\n".join([
            "fold mean", "  start total = 0", "  start many = 0", "  item sale price", "    total = total + price",
            "    many = many + 1", "  result 2*total - 1/2*many", "end",
        ]))
        text = "fold mean\n  start a = 0\n  item sale price\n    a = a - 1/2 + 2*price\n  result a\nend"
        self.assertEqual(str(narrowest(fold)), text)
        self.assertEqual(str(narrowest(fold=fold)), text)

    def test_by_hand(self):
        self.assertEqual(str(narrowest(Fold.parse(AFFINE))), AFFINE.replace("p", "a").replace("aut", "put"))
        self.assertEqual(str(narrowest(Fold.parse(CONSTANT))), CONSTANT)
        self.assertEqual(str(narrowest(Fold.parse(IDLE))), "fold idle\n  item x v\n  item y\n  result 7\nend")
        self.assertEqual(str(narrowest(Fold.parse(SMALL))), SMALL)
        self.assertEqual(str(narrowest(Fold.parse(TURNS))), "\n".join([
            "fold turns", "  start a = 0", "  start b = 1", "  item x v", "    a = a - a*v + b*v", "    b = 2*a - a*v - b + b*v",
            "  result a", "end",
        ]))
        self.assertEqual(str(narrowest(Fold.parse(VARIANCE))), "\n".join([
            "fold squares", "  start a = 0", "  item x v", "    a = a + 1 - 1/3*v + v*v", "  result a", "end",
        ]))
        self.assertEqual(str(narrowest(Fold.parse(DELAY))), "\n".join([
            "fold delay", "  start a = 0", "  start b = 0", "  start c = 0", "  item x v", "    a = b", "    b = c", "    c = v",
            "  result a", "end",
        ]))

    def test_every_product_of_fields(self):
        text = "fold f\n  start s = 2\n  item x p q\n    s = {}\n  item y r\n    s = {}\n  item z\n    s = {}\n  result s\nend"
        sums = [
            "1/2*s - 3*s*p + s*q - s*p*p + 5*s*p*q - 1/7*s*q*q - 4 + p - 2*q + 1/3*p*p - p*q + q*q",
            "-s + s*r - 9*s*r*r + 2 - r + 4/5*r*r", "-6*s + 1",
        ]
        fold = Fold.parse(text.format(*sums))
        renamed_sums = [one.replace("s", "a") for one in sums]
        self.assertEqual(str(narrowest(fold)), text.replace("s = ", "a = ").replace("result s", "result a").format(*renamed_sums))

    def test_names_of_fields_are_left_out(self):
        text = "fold f\n  start one = 1\n  start two = 0\n  start three = 0\n  item x {}\n    two = 2*one + {}\n" \
            "    three = two\n  item y {}\n    one = one + {}\n  result one + three\nend"
        for first, second, names in [
            ("a", "b", "cde"), ("a", "c", "bde"), ("b", "b", "acd"), ("a b", "c", "def"), ("c a", "b", "def"), ("z", "y", "abc"),
            ("a b", "c d", "efg"), ("aa", "bb", "abc"), ("b a", "e d", "cfg"),
        ]:
            fold = Fold.parse(text.format(first, first.split()[0], second, second.split()[0]).replace("two = 2", "two = 2", 1))
            found = self.assert_narrowest(fold, rows_up_to(fold.test_items(), 2)[:20])
            self.assertEqual([name for name, start in found.registers], list(names))

    def test_examples(self):
        source = random.Random(21)
        for text in EXAMPLES + [MEAN, FULL, WORDS, SMALL]:
            fold = Fold.parse(text)
            self.assert_narrowest(fold, [[]] + [any_row(source, fold, 6) for _ in range(6)])

    def test_random_folds(self):
        source = random.Random(22)
        for at in range(70):
            sketch = small_sketch(source, 8) if at % 2 else random_sketch(source)
            fold = Fold.parse(sketch.text())
            self.assert_narrowest(fold, [[]] + [any_row(source, fold, 4, 100) for _ in range(4)])

    def test_great_numbers(self):
        fold = Fold.parse("\n".join([
            "fold great", "  start s = 9999999999/9999999998", "  start t = -1/9999999997", "  start u = 0", "  item x f g",
            "    s = 1/9999999996*s*f - 9999999995*t*g*g + u*f*g + 9999999994/9999999993",
            "    t = 9999999991/9999999992*s - u*f*f + 1/9999999989*g", "    u = t + 9999999988/9999999987*f",
            "  result s - 1/9999999986*u", "end",
        ]))
        source = random.Random(3)
        self.assert_narrowest(fold, [[]] + [any_row(source, fold, 3) for _ in range(3)])

    def test_folds_with_the_same_results_have_one_narrowest_fold(self):
        source = random.Random(23)
        for _ in range(40):
            sketch = small_sketch(source, 8, 2)
            found = narrowest(Fold.parse(sketch.text()))
            ways = [with_idle_register(sketch), reversed_registers(sketch)]
            ways += [scaled(sketch, name, Fraction(5, -3)) for name, value in sketch.starts]
            for way in ways:
                self.assertTrue(narrowest(Fold.parse(way.text())) == found)

    def test_nothing_changes(self):
        fold = Fold.parse(MEAN)
        narrowest(fold), tails(fold), heads(fold), kept(fold, [("sale", (3,))])
        self.assertEqual(str(fold), MEAN)
        self.assertTrue(fold == Fold.parse(MEAN))
        self.assertEqual(str(fold([("sale", (3,)), ("sale", (4,))])), "13")
        self.assertEqual(fold([("back", (3,))]), ratio_of(Results(sketch_of(MEAN))([("back", (3,))])))


if __name__ == "__main__":
    unittest.main()
