"""Points 3, 6, 12 and 19: whether an item can be taken back."""

import copy
import random
import unittest

from foldparts.back import back_table, is_obstacle, obstacle
from foldparts.errors import BadItem, PartError
from foldparts.folds import Fold
from foldparts.ratios import Ratio
from foldparts.width import heads, kept, narrowest, tails
from reference import FULL, MEAN, SMALL, random_sketch
from searches import (
    AFFINE, CONSTANT, DELAY, EXAMPLES, IDLE, LATE, MOMENT, PRODUCT, SWAP, TRIPLES, TURNS, Basis, any_item, any_row,
    commuting_sketch, fraction_of, small_sketch, texts,
)
from test_width import nested, no_items

ZERO = Ratio(0, 1)


def combined(fold, item, value):
    """The sums of the kept numbers of each head and the item, with 1 in front, times the numbers."""
    sums = [ZERO] * (len(tails(fold)) + 1)
    for number, head in zip(value, heads(fold)):
        view = [Ratio(1, 1), *kept(fold, head + [item])]
        sums = [total + number * one for total, one in zip(sums, view)]
    return sums


def can_be_taken_back(fold, item):
    """Whether the kept numbers of the heads can be told from those with the item behind the heads."""
    basis = Basis()
    return all([basis.add([1, *[fraction_of(one) for one in kept(fold, head + [item])]]) for head in heads(fold)])


class BackTest(unittest.TestCase):
    def assert_table(self, fold, item, rows):
        table = back_table(fold, item)
        width = len(tails(fold))
        self.assertIs(type(table), tuple)
        self.assertEqual(len(table), width)
        for one in table:
            self.assertIs(type(one), tuple)
            self.assertEqual(len(one), width + 1)
            self.assertTrue(all(type(number) is Ratio for number in one))
        for row in heads(fold) + rows:
            behind = kept(fold, row + [item])
            self.assertEqual(kept(fold, row), tuple(value_of(one, behind) for one in table))
        self.assertIsNone(obstacle(fold, item))

    def assert_stuck(self, fold, item):
        self.assertIsNone(back_table(fold, item))
        found = obstacle(fold, item)
        self.assertIs(type(found), list)
        self.assertEqual(len(found), len(heads(fold)))
        self.assertTrue(all(type(number) is Ratio for number in found))
        self.assertTrue(any(number != ZERO for number in found))
        self.assertEqual(combined(fold, item, found), [ZERO] * len(found))
        self.assertIs(is_obstacle(fold, item, found), True)
        return found


def value_of(row, numbers):
    total = row[0]
    for factor, number in zip(row[1:], numbers):
        total = total + factor * number
    return total


class Tables(BackTest):
    def test_example_of_the_document(self):
        fold = Fold.parse("\n".join([
            "fold mean", "  start total = 0", "  start many = 0", "  item sale price", "    total = total + price",
            "    many = many + 1", "  result 2*total - 1/2*many", "end",
        ]))
        table = back_table(fold, ("sale", (3,)))
        self.assertEqual([[str(number) for number in row] for row in table], [["-11/2", "1"]])
        self.assertEqual(back_table(item=("sale", (3,)), fold=fold), table)

    def test_by_hand(self):
        fold = Fold.parse(AFFINE)
        self.assertEqual([texts(row) for row in back_table(fold, ("put", (-4, 1000)))], [["250", "-1/4"]])
        fold = Fold.parse(SWAP)
        self.assertEqual([texts(row) for row in back_table(fold, ("x", ()))], [["6", "-1", "-1"], ["0", "1", "0"]])
        fold = Fold.parse(TURNS)
        # The kept numbers are t and t + s, and after x with 5 they are t + 5*s and t + 4*s.
        self.assertEqual([texts(row) for row in back_table(fold, ("x", (5,)))], [["0", "-4", "5"], ["0", "-3", "4"]])

    def test_width_0(self):
        for text, item in [(CONSTANT, ("x", (5,))), (CONSTANT, ("y", ())), (IDLE, ("x", (0,))), (SMALL, ("x", ()))]:
            fold = Fold.parse(text)
            self.assertEqual(back_table(fold, item), ())
            self.assertIsNone(obstacle(fold, item))

    def test_stuck(self):
        for text, item in [
            (AFFINE, ("put", (0, 7))), (PRODUCT, ("x", (0,))), (DELAY, ("x", (0,))), (DELAY, ("x", (1000,))),
            (LATE, ("go", ())), (FULL, ("item", (7,))),
        ]:
            self.assert_stuck(Fold.parse(text), item)

    def test_not_stuck(self):
        source = random.Random(19)
        for text, item in [
            (AFFINE, ("put", (1, 7))), (PRODUCT, ("x", (-1000,))), (LATE, ("stay", ())), (TRIPLES, ("x", (-7,))),
            (MOMENT, ("cut", ())), (MOMENT, ("x", (1000, -1000))), (MEAN, ("back", (0,))), (SWAP, ("x", ())),
        ]:
            fold = Fold.parse(text)
            self.assert_table(fold, item, [any_row(source, fold, 5) for _ in range(4)])

    def test_some_values_of_a_field_only(self):
        fold = Fold.parse("\n".join([
            "fold f", "  start s = 1", "  start t = 0", "  item x f g", "    s = -3*s + s*f + t", "    t = -6*s + t*g", "  result s",
            "end",
        ]))
        stuck = []
        for f in range(-3, 8):
            for g in range(-3, 8):
                if back_table(fold, ("x", (f, g))) is None:
                    self.assert_stuck(fold, ("x", (f, g)))
                    stuck.append((f, g))
                else:
                    self.assert_table(fold, ("x", (f, g)), [])
        self.assertEqual(stuck, [(f, g) for f in range(-3, 8) for g in range(-3, 8) if (f - 3) * g == -6])

    def test_random_folds(self):
        source = random.Random(20)
        stuck = 0
        folds = [Fold.parse(text) for text in EXAMPLES] + [Fold.parse(small_sketch(source, 8).text()) for _ in range(60)]
        folds += [Fold.parse(random_sketch(source).text()) for _ in range(25)]
        for fold in folds:
            item = any_item(source, fold)
            if can_be_taken_back(fold, item):
                self.assert_table(fold, item, [any_row(source, fold, 6) for _ in range(2)])
            else:
                self.assert_stuck(fold, item)
                stuck += 1
        self.assertTrue(15 < stuck < 70, stuck)

    def test_only_the_results_count(self):
        # The register t is lost at each item, but no result needs it.
        fold = Fold.parse("fold f\n  start s = 0\n  start t = 1\n  item x v\n    s = s + v\n    t = 0\n  result s\nend")
        self.assertEqual([texts(row) for row in back_table(fold, ("x", (5,)))], [["-5", "1"]])
        for text in EXAMPLES:
            fold = Fold.parse(text)
            for item in fold.test_items():
                self.assertEqual(back_table(narrowest(fold), item), back_table(fold, item))


class Obstacles(BackTest):
    def test_changed_ones(self):
        source = random.Random(21)
        folds = [(Fold.parse(AFFINE), ("put", (0, 7))), (Fold.parse(DELAY), ("x", (3,))), (Fold.parse(LATE), ("go", ()))]
        for fold, item in folds:
            found = self.assert_stuck(fold, item)
            for factor in (Ratio(-1, 1), Ratio(7, 3), Ratio(10 ** 20, 7)):
                self.assertIs(is_obstacle(fold, item, [number * factor for number in found]), True)
            others = [
                [number * ZERO for number in found], found[1:], found[:-1], found + [ZERO], [ZERO] + found, tuple(found), [found],
                (found,), [], {at: number for at, number in enumerate(found)}, [None] * len(found), texts(found),
                [number.top for number in found], [0] * len(found), [1] * len(found), [True] * len(found), found[0], str(found),
                [*found[:-1], None], [*found[:-1], [found[-1]]], found * 2,
            ]
            for at in range(len(found)):
                others.append([number + Ratio(source.randrange(1, 9), 7) if k == at else number for k, number in enumerate(found)])
                others.append([number.top if k == at else number for k, number in enumerate(found)])
            for other in others:
                if combined_or_none(fold, item, other) is not True:
                    before = copy.deepcopy(other)
                    self.assertIs(is_obstacle(fold, item, other), False)
                    self.assertEqual(other, before)

    def test_integers_are_no_ratios(self):
        fold = Fold.parse(PRODUCT)
        self.assertIs(is_obstacle(fold, ("x", (0,)), [Ratio(1, 1), Ratio(-1, 1)]), True)
        self.assertIs(is_obstacle(value=[Ratio(-7, 3), Ratio(7, 3)], item=("x", (0,)), fold=fold), True)
        for value in ([1, -1], [1, Ratio(-1, 1)], [Ratio(1, 1), -1], [True, Ratio(-1, 1)], (Ratio(1, 1), Ratio(-1, 1)),
                      [Ratio(1, 1), Ratio(-1, 1), Ratio(0, 1)], [Ratio(1, 1)], [Ratio(0, 1), Ratio(0, 1)],
                      [Ratio(1, 1), Ratio(1, 1)], [Ratio(1, 1), "-1"], ["1", "-1"], [None, None]):
            self.assertIs(is_obstacle(fold, ("x", (0,)), value), False)

    def test_items_that_can_be_taken_back(self):
        for text, item in [(AFFINE, ("put", (1, 7))), (MEAN, ("sale", (0,))), (CONSTANT, ("y", ())), (TRIPLES, ("x", (2,)))]:
            fold = Fold.parse(text)
            many = len(heads(fold))
            for value in ([Ratio(1, 1)] * many, [ZERO] * many, [Ratio(1, 1), Ratio(-1, 1)] * many, [], None,
                          ([Ratio(1, 1), Ratio(-1, 1)] * many)[:many]):
                self.assertIs(is_obstacle(fold, item, value), False)

    def test_any_other_value(self):
        fold = Fold.parse(PRODUCT)
        for value in no_items() + [
            0, 1, Ratio(0, 1), nested(50, lambda one: [one]), [nested(49, lambda one: (one,)), Ratio(1, 1)], [[], []], [(), ()],
            [{}, {}], [None, Ratio(1, 1)],
        ]:
            self.assertIs(is_obstacle(fold, ("x", (0,)), value), False)
            self.assertIs(is_obstacle(Fold.parse(CONSTANT), ("x", (0,)), value), False)

    def test_other_obstacles_than_the_told_one(self):
        # Behind x with 0 each head leads to the same kept numbers, so two dimensions of obstacles remain.
        fold = Fold.parse("\n".join([
            "fold f", "  start s = 1", "  start t = 2", "  item x v w", "    s = s*v", "    t = t*w", "  result s + t", "end",
        ]))
        item = ("x", (0, 0))
        self.assertEqual(len(heads(fold)), 3)
        for value in ((1, -1, 0), (0, 1, -1), (1, 1, -2), (-3, 1, 2)):
            self.assertIs(is_obstacle(fold, item, [Ratio(number, 5) for number in value]), True)
        for value in ((1, 1, 1), (1, 0, 0), (0, 0, 0), (1, -1, 1)):
            self.assertIs(is_obstacle(fold, item, [Ratio(number, 5) for number in value]), False)

    def test_new_each_time(self):
        fold = Fold.parse(DELAY)
        found = obstacle(fold=fold, item=("x", (3,)))
        before = list(found)
        found.clear()
        self.assertEqual(obstacle(fold, ("x", (3,))), before)


def combined_or_none(fold, item, value):
    """Whether a list of as many Ratios as heads, not all 0, is an obstacle; None for anything else."""
    if not isinstance(value, list) or len(value) != len(heads(fold)) or not all(type(number) is Ratio for number in value):
        return None
    return any(number != ZERO for number in value) and all(total == ZERO for total in combined(fold, item, value))


class NoItems(unittest.TestCase):
    def test_what_is_no_item(self):
        for text in (TURNS, "fold f\n  item x v\n  result 1/2\nend"):
            fold = Fold.parse(text)
            for item in no_items():
                before = copy.deepcopy(item)
                for called in (lambda: back_table(fold, item), lambda: obstacle(fold, item),
                               lambda: is_obstacle(fold, item, [Ratio(1, 1)]), lambda: is_obstacle(fold, item, None)):
                    for caught in (BadItem, PartError):
                        with self.assertRaises(caught) as found:
                            called()
                        self.assertEqual(found.exception.index, 0)
                self.assertEqual(item, before)
            self.assertEqual(str(fold), text)


class Commuting(BackTest):
    def test_folds_whose_order_does_not_matter(self):
        source = random.Random(22)
        for _ in range(25):
            fold = Fold.parse(commuting_sketch(source).text())
            item = any_item(source, fold, 3)
            if can_be_taken_back(fold, item):
                self.assert_table(fold, item, [any_row(source, fold, 6)])
            else:
                self.assert_stuck(fold, item)


if __name__ == "__main__":
    unittest.main()
