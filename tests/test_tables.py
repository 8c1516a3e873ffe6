"""Points 3, 6 and 25: tables."""

import copy
import random
import unittest
from fractions import Fraction

from foldparts.errors import BadItem, OtherKinds, TooLarge
from foldparts.folds import Fold
from foldparts.formulas import Formula
from foldparts.ratios import Ratio
from foldparts.tables import RowTable
from foldparts.width import heads, kept, tails
from reference import FULL, MEAN, WORDS
from searches import EXAMPLES, TURNS, any_row, fraction_of, rows_up_to, sketch_of, small_sketch, texts
from test_formulas import Refused, formula_of
from test_width import no_items
from twins import (
    ALWAYS, COUNT_B, FAMILIES, FIELDS, LAST, LETTERS, MANY, NEVER, ONE, POWERS, SQUARES, STEPS, PlainTable, few_items, random_twin, twin_of,
)

A, B = ("a", ()), ("b", ())


def twins_up_to(source, family, many, most_size):
    """Up to so many twins with the kinds of a family, of at most this size together."""
    twins = []
    for _ in range(many):
        left = most_size - sum(twin.size for twin in twins)
        if left >= min(twin_of(text).size for text in family):
            twins.append(random_twin(source, family, source.randrange(4), min(8, left)))
    return twins


def table_of(twins):
    return RowTable([twin.formula for twin in twins])


class TableTest(Refused):
    def assert_searched(self, twins, longest):
        plain = PlainTable(twins, longest)
        if not plain.is_whole():
            return False
        table = table_of(twins)
        self.assertEqual(table.tail_pairs(), plain.tails)
        self.assertEqual(table.head_rows(), plain.heads)
        return True

    def assert_numbers(self, twins, table, rows, others):
        """Separators, kept numbers and weights, as point 25 tells them of the heads and tails."""
        pairs, firsts, apart = table.tail_pairs(), table.head_rows(), table.separators()
        views = [[Fraction(1), *[twins[number](head + tail) for number, tail in pairs]] for head in firsts]
        self.assertEqual((len(firsts), len(apart)), (len(pairs) + 1, len(pairs) + 1))
        for at, separator in enumerate(apart):
            self.assertIs(type(separator), list)
            self.assertTrue(all(type(number) is Ratio for number in separator))
            self.assertEqual(len(separator), len(pairs) + 1)
            for place, view in enumerate(views):
                self.assertEqual(sum(fraction_of(one) * other for one, other in zip(separator, view)), int(place == at))
        for row in rows:
            before = list(row)
            found, weights = table.kept(row), table.weights(row)
            self.assertEqual(row, before)
            self.assertEqual((type(found), type(weights)), (tuple, tuple))
            self.assertEqual([fraction_of(number) for number in found], [twins[number](row + tail) for number, tail in pairs])
            weights = [fraction_of(weight) for weight in weights]
            self.assertEqual((len(weights), sum(weights)), (len(firsts), 1))
            view = [Fraction(1), *[fraction_of(number) for number in found]]
            self.assertEqual([sum(weight * one[at] for weight, one in zip(weights, views)) for at in range(len(view))], view)
            for more in others:
                for twin in twins:
                    total = sum(weight * twin(head + more) for weight, head in zip(weights, firsts) if weight != 0)
                    self.assertEqual(twin(row + more), total)


class TailsAndHeads(TableTest):
    def test_example_of_the_document(self):
        table = RowTable(formulas=[formula_of(MANY)])
        self.assertEqual([table.tail_pairs(), table.head_rows(), texts(table.weights(row=[A] * 3))], [[(0, [])], [[], [A]], ["-2", "3"]])

    def test_by_hand(self):
        last = formula_of(LAST)
        table = RowTable([last, last.running(), last])
        zero, one = ("x", (0,)), ("x", (1,))
        self.assertEqual(table.tail_pairs(), [(0, []), (1, [])])
        self.assertEqual(table.head_rows(), [[], [one], [one, zero]])
        self.assertEqual([texts(separator) for separator in table.separators()], [["1", "0", "-1"], ["0", "1", "0"], ["0", "-1", "1"]])
        self.assertEqual(texts(table.kept([one, ("x", (5,))])), ["5", "6"])
        # With a mirrored one, what the first item was must be kept apart from what the last was.
        table = RowTable([last.mirrored(), last])
        self.assertEqual(table.tail_pairs(), [(0, []), (1, []), (0, [one])])
        self.assertEqual(table.head_rows(), [[], [zero], [one], [zero, one]])

    def test_of_one_fold(self):
        source = random.Random(1)
        texts_of_folds = EXAMPLES + [MEAN, FULL, WORDS] + [small_sketch(source, 8).text() for _ in range(20)]
        for text in texts_of_folds:
            fold = Fold.parse(text)
            table = RowTable([Formula(fold)])
            self.assertEqual(table.tail_pairs(), [(0, tail) for tail in tails(fold)])
            self.assertEqual(table.head_rows(), heads(fold))
            row = any_row(source, fold, 5)
            self.assertEqual(table.kept(row), kept(fold, row))

    def test_letters_against_all_rows(self):
        source = random.Random(2)
        whole, widths = 0, set()
        for _ in range(60):
            twins = twins_up_to(source, LETTERS, source.randrange(1, 6), 10)
            whole += self.assert_searched(twins, 4)
            widths.add(len(table_of(twins).tail_pairs()))
        self.assertGreater(whole, 45)
        self.assertTrue(widths >= {0, 1, 2, 3, 4, 5}, widths)

    def test_fields_against_all_rows(self):
        source = random.Random(3)
        whole = 0
        for family, longest, many in [(FIELDS, 3, 7), (SQUARES, 2, 9)]:
            for _ in range(many):
                whole += self.assert_searched(twins_up_to(source, family, 3, 6), longest)
        self.assertGreater(whole, 10)

    def test_random_folds_against_all_rows(self):
        source = random.Random(4)
        whole = 0
        for _ in range(16):
            first = small_sketch(source, 4, 2)
            other = sketch_of(first.text())
            other.starts = [(name, value + 1) for name, value in first.starts]
            twins = [twin_of(first.text()), twin_of(other.text()).mirrored()]
            whole += self.assert_searched(twins, 3)
        self.assertGreater(whole, 10)

    def test_wide_tables(self):
        # The third item from behind, and the third one.
        bit = twin_of("fold bit\n  start s = 0\n  start t = 0\n  start u = 0\n  item a\n    s = 1\n    t = s\n    u = t\n"
                      "  item b\n    s = 0\n    t = s\n    u = t\n  result u\nend")
        twins = [bit, bit.mirrored()]
        table = table_of(twins)
        self.assertEqual(len(table.tail_pairs()), 7)
        self.assertTrue(self.assert_searched(twins, 6))
        powers = twin_of(POWERS)
        twins = [powers.running().running() + twin_of(STEPS), twin_of(STEPS)]
        self.assertEqual(sum(twin.size for twin in twins), 10)
        self.assertTrue(self.assert_searched(twins, 5))

    def test_one_head_more_and_the_empty_row_first(self):
        source = random.Random(5)
        for family in FAMILIES:
            for _ in range(15):
                twins = twins_up_to(source, family, source.randrange(1, 6), 10)
                table = table_of(twins)
                self.assertEqual(len(table.head_rows()), len(table.tail_pairs()) + 1)
                self.assertEqual(table.head_rows()[0], [])
                self.assertLessEqual(len(table.tail_pairs()), sum(twin.size for twin in twins))

    def test_the_same_formula_twice(self):
        source = random.Random(6)
        for _ in range(10):
            twin = random_twin(source, LETTERS, 3, 5)
            once, twice = table_of([twin]), table_of([twin, twin])
            self.assertEqual(twice.tail_pairs(), once.tail_pairs())
            self.assertEqual((twice.head_rows(), twice.separators()), (once.head_rows(), once.separators()))
            again = RowTable([twin.formula, twin.formula.mirrored().mirrored()])
            self.assertEqual(again.tail_pairs(), once.tail_pairs())

    def test_the_order_of_the_formulas(self):
        many, steps = twin_of(COUNT_B), twin_of(STEPS)
        self.assertTrue(self.assert_searched([many, steps], 4))
        self.assertTrue(self.assert_searched([steps, many], 4))
        self.assertEqual([number for number, row in table_of([many, steps]).tail_pairs()][:2], [0, 1])
        # A constant first: no tail has its number.
        self.assertTrue(self.assert_searched([twin_of(ALWAYS), many, many.running()], 4))
        self.assertEqual(table_of([twin_of(ALWAYS), many]).tail_pairs(), [(1, [])])


class Numbers(TableTest):
    def test_against_their_words(self):
        source = random.Random(7)
        for family in FAMILIES:
            for _ in range(14):
                twins = twins_up_to(source, family, source.randrange(1, 6), 10)
                rows = [[], few_items(source, twins[0], 4), any_row(source, twins[0], 3)]
                self.assert_numbers(twins, table_of(twins), rows, [[], few_items(source, twins[0], 3), any_row(source, twins[0], 2)])

    def test_the_weights_of_heads(self):
        table = table_of([twin_of(STEPS), twin_of(POWERS)])
        for at, head in enumerate(table.head_rows()):
            self.assertEqual(texts(table.weights(head)), [str(int(place == at)) for place in range(len(table.head_rows()))])

    def test_all_short_rows(self):
        source = random.Random(8)
        for _ in range(6):
            twins = twins_up_to(source, LETTERS, 2, 8)
            self.assert_numbers(twins, table_of(twins), rows_up_to([A, B], 4), [[B, A]])

    def test_a_row_that_is_made_longer(self):
        table = RowTable([formula_of(MANY), formula_of(MANY).running()])
        row = []
        for many in range(4):
            self.assertEqual([texts(table.kept(row)), texts(table.kept(row=row))], [[str(many), str(many * (many + 1) // 2)]] * 2)
            row.append(A)


class NoFormulas(TableTest):
    def test_any_row(self):
        table = RowTable([])
        self.assertEqual(table.formulas, ())
        self.assertEqual([table.tail_pairs(), table.head_rows(), table.separators()], [[], [[]], [[Ratio(1, 1)]]])
        for row in ([], [A], [None, 7, [8], {"a": Ratio(1, 2)}, ("x", (1001,))], no_items()):
            before = copy.deepcopy(row)
            self.assertEqual((table.kept(row), table.weights(row)), ((), (Ratio(1, 1),)))
            self.assertEqual(row, before)

    def test_constants_only(self):
        for text in (ALWAYS, NEVER):
            table = RowTable([formula_of(text), formula_of(text) * Ratio(-2, 3)])
            self.assertEqual([table.tail_pairs(), table.head_rows(), table.separators()], [[], [[]], [[Ratio(1, 1)]]])
            self.assertEqual((table.kept([A, B]), table.weights([B])), ((), (Ratio(1, 1),)))
            self.assert_raises(BadItem, lambda: table.kept([A, ("c", ())]), index=1)


class WhatIsRefused(TableTest):
    def test_other_kinds_ahead_of_the_size(self):
        great = formula_of(MANY).summed().summed().summed()
        other = formula_of(ONE.replace("item a", "item b"))
        for formulas in ([great, other], [other, great, great], [great, great, other], [great, great, great, great, other]):
            self.assert_raises(OtherKinds, lambda: RowTable(formulas))
        self.assert_raises(OtherKinds, lambda: RowTable([formula_of(MANY), other]))

    def test_sizes(self):
        many, one = formula_of(MANY), formula_of(ONE)
        great = many.summed().summed().summed()
        self.assertEqual(RowTable([great, many]).formulas, (great, many))
        self.assertEqual(len(RowTable([many] * 5).formulas), 5)
        self.assertEqual(len(RowTable([one, great, one]).head_rows()), 8)
        for formulas, size in [([great, many, one], 11), ([great, great], 16), ([many.running()] * 4, 12), ([many, many, one, many, many, many], 11)]:
            self.assert_raises(TooLarge, lambda: RowTable(formulas), size=size)

    def test_what_is_no_item(self):
        for table in (RowTable([formula_of(TURNS)]), RowTable([formula_of(TURNS).only([]), formula_of(TURNS)])):
            good = [("x", (3,)), ("x", (-1000,))]
            for item in no_items():
                for at in range(3):
                    row = good[:at] + [item] + good[at:]
                    before = copy.deepcopy(row)
                    for called in (table.kept, table.weights):
                        self.assert_raises(BadItem, lambda: called(row), index=at)
                    self.assertEqual(row, before)


class NothingChanges(TableTest):
    def test_the_formulas(self):
        first, second = formula_of(COUNT_B), formula_of(STEPS)
        given = [first, second]
        table = RowTable(given)
        self.assertIs(type(table.formulas), tuple)
        self.assertIn("formulas", vars(table))
        self.assertEqual(len(table.formulas), 2)
        self.assertIs(table.formulas[0], first)
        self.assertIs(table.formulas[1], second)
        before = table.tail_pairs(), table.head_rows(), table.separators(), table.kept([A, B]), table.weights([B])
        given.clear()
        self.assertEqual(len(table.formulas), 2)
        self.assertEqual((table.tail_pairs(), table.head_rows(), table.separators(), table.kept([A, B]), table.weights([B])), before)

    def test_new_each_time(self):
        table = table_of([twin_of(STEPS), twin_of(COUNT_B).running()])
        told = [table.tail_pairs(), table.head_rows(), table.separators()] * 2
        told += [table.tail_pairs(), table.head_rows(), table.separators()]
        before = copy.deepcopy(told)
        told = [table.tail_pairs(), table.head_rows(), table.separators(), table.tail_pairs(), table.head_rows(), table.separators()]
        inside = [row for number, row in told[0] + told[3]] + told[1] + told[2] + told[4] + told[5]
        lists = told + inside
        self.assertEqual(len({id(one) for one in lists}), len(lists))
        for one in inside + told:
            self.assertIs(type(one), list)
            one.append(7)
        self.assertEqual([table.tail_pairs(), table.head_rows(), table.separators()], before[:3])
        self.assertEqual(texts(table.weights([A])), texts(table_of([twin_of(STEPS), twin_of(COUNT_B).running()]).weights([A])))


if __name__ == "__main__":
    unittest.main()
