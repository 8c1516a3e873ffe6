"""Points 3, 6 and 29: gauges."""

import copy
import random
import unittest

from foldparts.errors import BadItem, UnknownMark
from foldparts.gauges import Gauge
from foldparts.ratios import Ratio
from foldparts.tables import RowTable
from searches import TURNS, any_item, any_row, fraction_of, texts
from test_formulas import Refused, formula_of
from test_tables import table_of, twins_up_to
from test_width import nested, no_items
from twins import COUNT_B, FAMILIES, LAST, LAST_IS_B, LETTERS, MANY, STEPS, few_items, twin_of

A, B = ("a", ()), ("b", ())

NO_MARKS = [
    True, False, None, "0", "", [], [0], {}, {"a": [0]}, (), (0,), -1, -2, 10 ** 30, -(10 ** 30), Ratio(0, 1),
    Ratio(1, 1), [Ratio(0, 1)], [[1], {"b": (2, [3])}],
]


class Model:
    """A gauge in plain words: its row, and the rows of its marks."""

    def __init__(self, gauge, row):
        self.gauge = gauge
        self.row = list(row)
        self.marks = []


class GaugeTest(Refused):
    def assert_model(self, model, twins, table):
        gauge, row = model.gauge, model.row
        self.assertEqual(len(gauge), len(row))
        self.assertEqual(gauge.so_far(), row)
        self.assertIs(type(gauge.so_far()), list)
        told = gauge.told()
        self.assertIs(type(told), list)
        self.assertEqual([fraction_of(number) for number in told], [twin(row) for twin in twins])
        self.assertIs(type(gauge.weights()), tuple)
        self.assertEqual(gauge.weights(), table.weights(row))

    def assert_parted(self, model, other, table):
        kept, more = table.kept(model.row), table.kept(other.row)
        first = next((pair for pair, one, another in zip(table.tail_pairs(), kept, more) if one != another), None)
        self.assertEqual(model.gauge.parted(other.gauge), first)
        self.assertEqual(other.gauge.parted(other=model.gauge), first)


class Gauges(GaugeTest):
    def test_example_of_the_document(self):
        gauge = Gauge(table=RowTable([formula_of(MANY)]))
        self.assertIsNone(gauge.push(item=A))
        other = gauge.fork()
        self.assertIsNone(other.push_row(row=[A] * 2))
        self.assertEqual([len(gauge), len(other), str(other.told()[0]), gauge.parted(other)], [1, 3, "3", (0, [])])

    def test_a_new_one(self):
        table = RowTable([formula_of(STEPS), formula_of(COUNT_B)])
        gauge = Gauge(table)
        self.assertEqual([len(gauge), gauge.so_far(), texts(gauge.told()), texts(gauge.weights())],
                         [0, [], ["1", "0"], ["1"] + ["0"] * (len(table.head_rows()) - 1)])
        self.assertIsNone(gauge.parted(Gauge(table)))
        self.assertIsNone(gauge.parted(gauge))

    def test_what_is_told_after(self):
        gauge = Gauge(RowTable([formula_of(LAST), formula_of(LAST).running()]))
        gauge.push(("x", (5,)))
        row = [("x", (7,)), ("x", (-1000,))]
        self.assertEqual(texts(gauge.told_after(row)), ["-1000", "-988"])
        self.assertEqual(texts(gauge.told_after(row=[])), ["5", "5"])
        self.assertEqual((len(gauge), texts(gauge.told()), row), (1, ["5", "5"], [("x", (7,)), ("x", (-1000,))]))

    def test_marks(self):
        gauge = Gauge(RowTable([formula_of(MANY)]))
        self.assertEqual(gauge.mark(), 0)
        gauge.push(A)
        self.assertEqual(gauge.mark(), 1)
        self.assertEqual(gauge.mark(), 2)
        gauge.push_row([A, A])
        self.assertEqual(gauge.mark(), 3)
        gauge.push(A)
        self.assertIsNone(gauge.back(number=2))
        self.assertEqual([len(gauge), texts(gauge.told())], [1, ["1"]])
        for number in (3, 4):
            self.assert_raises(UnknownMark, lambda: gauge.back(number), number=number)
        # The mark stays, and the next one has the number of the first that ended.
        gauge.push(A)
        gauge.back(2)
        self.assertEqual(len(gauge), 1)
        gauge.push(A)
        self.assertEqual(gauge.mark(), 3)
        gauge.push(A)
        gauge.back(3)
        self.assertEqual(len(gauge), 2)
        gauge.back(0)
        self.assertEqual([len(gauge), gauge.so_far(), texts(gauge.told())], [0, [], ["0"]])
        self.assert_raises(UnknownMark, lambda: gauge.back(1), number=1)
        self.assertEqual(gauge.mark(), 1)

    def test_many_calls(self):
        source = random.Random(1)
        for family in FAMILIES:
            for _ in range(8):
                twins = twins_up_to(source, family, source.randrange(1, 5), 10)
                table = table_of(twins)
                models = [Model(Gauge(table), []), Model(Gauge(table), [])]
                for _ in range(60):
                    self.one_call(source, source.choice(models), twins, models)
                    if source.randrange(4) == 0:
                        self.assert_model(source.choice(models), twins, table)
                        self.assert_parted(source.choice(models), source.choice(models), table)
                for model in models:
                    self.assert_model(model, twins, table)

    def one_call(self, source, model, twins, models):
        gauge, way = model.gauge, source.randrange(9)
        if way < 2 and len(model.row) < 12:
            item = any_item(source, twins[0], source.choice([3, 1000]))
            gauge.push(item)
            model.row.append(item)
        elif way == 2 and len(model.row) < 12:
            row = few_items(source, twins[0], 3)
            gauge.push_row(row)
            model.row.extend(row)
            # What was handed in may be changed.
            row.append(None)
            row.reverse()
        elif way in (3, 4):
            self.assertEqual(gauge.mark(), len(model.marks))
            model.marks.append(list(model.row))
        elif way in (5, 6) and model.marks:
            number = source.randrange(len(model.marks))
            gauge.back(number)
            model.row = list(model.marks[number])
            model.marks = model.marks[:number + 1]
        elif way == 7:
            row = few_items(source, twins[0], 3)
            self.assertEqual([fraction_of(number) for number in gauge.told_after(row)], [twin(model.row + row) for twin in twins])
        elif len(models) < 5:
            models.append(Model(gauge.fork(), model.row))
        self.assert_raises(UnknownMark, lambda: gauge.back(len(model.marks)), number=len(model.marks))


class Forks(GaugeTest):
    def test_no_marks_and_the_same_row(self):
        gauge = Gauge(RowTable([formula_of(STEPS)]))
        gauge.mark()
        gauge.push_row([A, B])
        gauge.mark()
        fork = gauge.fork()
        self.assertIs(type(fork), Gauge)
        self.assertEqual([fork.so_far(), fork.told(), fork.weights()], [[A, B], gauge.told(), gauge.weights()])
        self.assert_raises(UnknownMark, lambda: fork.back(0), number=0)
        self.assertEqual(fork.mark(), 0)
        fork.push(B)
        fork.back(0)
        self.assertEqual([len(fork), len(gauge)], [2, 2])

    def test_none_changes_another(self):
        gauge = Gauge(RowTable([formula_of(STEPS), formula_of(LAST_IS_B)]))
        gauge.push_row([A, B])
        gauge.mark()
        fork, other = gauge.fork(), gauge.fork().fork()
        fork.push(A)
        gauge.push_row([B, B, B])
        other.mark()
        other.push(B)
        self.assertEqual([one.so_far() for one in (gauge, fork, other)], [[A, B, B, B, B], [A, B, A], [A, B, B]])
        gauge.back(0)
        self.assertEqual([one.so_far() for one in (gauge, fork, other)], [[A, B], [A, B, A], [A, B, B]])
        other.back(0)
        self.assertEqual([one.so_far() for one in (gauge, fork, other)], [[A, B], [A, B, A], [A, B]])
        self.assertIsNone(gauge.parted(other))


class Parted(GaugeTest):
    def test_by_hand(self):
        table = RowTable([formula_of(COUNT_B), formula_of(LAST_IS_B)])
        self.assertEqual(table.tail_pairs(), [(0, []), (1, [])])
        first, second = Gauge(table), Gauge(table)
        first.push_row([B, A])
        second.push_row([A, A, A])
        self.assertEqual(first.parted(second), (0, []))
        second.push_row([A, B])
        self.assertEqual(first.parted(second), (1, []))
        first.push_row([A, A])
        second.push(A)
        self.assertIsNone(first.parted(second))
        self.assertNotEqual(first.so_far(), second.so_far())

    def test_a_longer_tail(self):
        last = formula_of(LAST)
        table = RowTable([last.mirrored()])
        self.assertEqual(table.tail_pairs(), [(0, []), (0, [("x", (1,))])])
        first, second = Gauge(table), Gauge(table)
        second.push(("x", (0,)))
        found = first.parted(second)
        self.assertEqual(found, (0, [("x", (1,))]))
        found[1].append(7)
        self.assertEqual(first.parted(second), (0, [("x", (1,))]))
        self.assertEqual(table.tail_pairs(), [(0, []), (0, [("x", (1,))])])


class NoFormulas(GaugeTest):
    def test_any_items(self):
        table = RowTable([])
        gauge = Gauge(table)
        for item in no_items():
            gauge.push(item)
        gauge.push_row([None, [1], {"a": [2]}])
        self.assertEqual(len(gauge), len(no_items()) + 3)
        self.assertEqual([gauge.told(), gauge.weights(), gauge.told_after([None, 7])], [[], (Ratio(1, 1),), []])
        self.assertEqual(gauge.so_far()[-3:], [None, [1], {"a": [2]}])
        self.assertIsNone(gauge.parted(Gauge(table)))
        self.assertEqual(gauge.mark(), 0)
        gauge.push(7)
        gauge.back(0)
        self.assertEqual(len(gauge), len(no_items()) + 3)
        self.assert_raises(UnknownMark, lambda: gauge.back(1), number=1)

    def test_items_are_copied(self):
        gauge = Gauge(RowTable([]))
        item, row = [1, {"a": [2]}], [[3], ([4], {"b": [5]})]
        gauge.push(item)
        gauge.push_row(row)
        fork = gauge.fork()
        before = copy.deepcopy(gauge.so_far())
        self.assertEqual(before, [[1, {"a": [2]}], [3], ([4], {"b": [5]})])
        item[1]["a"].append(7)
        item.clear()
        row[0].append(7)
        row[1][1]["b"].append(7)
        told = gauge.so_far()
        told[0][1]["a"].append(7)
        told[2][0].append(7)
        told.clear()
        self.assertEqual([gauge.so_far(), fork.so_far()], [before, before])
        part = [8]
        gauge.push_row([part, part])
        one, other = gauge.so_far()[-2:]
        self.assertIsNot(one, other)


class WhatIsRefused(GaugeTest):
    def gauge(self):
        gauge = Gauge(RowTable([formula_of(TURNS), formula_of(TURNS).running()]))
        gauge.mark()
        gauge.push_row([("x", (3,)), ("x", (-1000,))])
        gauge.mark()
        gauge.push(("x", (1,)))
        return gauge

    def told(self, gauge):
        return len(gauge), gauge.so_far(), gauge.told(), gauge.weights(), gauge.told_after([("x", (5,))])

    def test_what_is_no_item(self):
        gauge = self.gauge()
        before = self.told(gauge)
        good = [("x", (3,)), ("x", (1000,))]
        for item in no_items():
            given = copy.deepcopy(item)
            self.assert_raises(BadItem, lambda: gauge.push(item), index=0)
            self.assertEqual(item, given)
            for at in range(3):
                row = good[:at] + [item] + good[at:]
                given = copy.deepcopy(row)
                self.assert_raises(BadItem, lambda: gauge.push_row(row), index=at)
                self.assert_raises(BadItem, lambda: gauge.told_after(row), index=at)
                self.assertEqual(row, given)
        self.assertEqual(self.told(gauge), before)
        gauge.back(1)
        self.assertEqual(len(gauge), 2)

    def test_what_is_no_mark(self):
        gauge = self.gauge()
        before = self.told(gauge)
        for number in NO_MARKS + [2, nested(50, lambda one: [one])]:
            given = copy.deepcopy(number)
            self.assert_raises(UnknownMark, lambda: gauge.back(number), number=given)
            self.assertEqual(number, given)
            self.assertEqual(self.told(gauge), before)
        with self.assertRaises(UnknownMark) as found:
            gauge.back(True)
        self.assertIs(found.exception.number, True)
        # What an error has is new, too.
        number = [[1]]
        with self.assertRaises(UnknownMark) as found:
            gauge.back(number)
        found.exception.number[0].append(2)
        self.assertEqual(number, [[1]])
        gauge.back(1)
        gauge.back(0)
        self.assert_raises(UnknownMark, lambda: gauge.back(1), number=1)
        self.assertEqual(gauge.so_far(), [])

    def test_no_marks_at_all(self):
        gauge = Gauge(RowTable([formula_of(MANY)]))
        for number in NO_MARKS + [0, 1]:
            self.assert_raises(UnknownMark, lambda: gauge.back(number), number=number)


class NothingChanges(GaugeTest):
    def test_new_each_time(self):
        table = RowTable([formula_of(STEPS), formula_of(COUNT_B).running()])
        gauge = Gauge(table)
        gauge.push_row([A, B, B])
        for called in (gauge.so_far, gauge.told, lambda: gauge.told_after([B])):
            first = called()
            before = list(first)
            first.clear()
            self.assertEqual(called(), before)
        row = gauge.so_far()
        gauge.push_row(row)
        self.assertEqual([gauge.so_far(), row], [[A, B, B] * 2, [A, B, B]])

    def test_the_table(self):
        source = random.Random(2)
        for _ in range(5):
            twins = twins_up_to(source, LETTERS, 3, 10)
            table = table_of(twins)
            before = table.tail_pairs(), table.head_rows(), table.separators(), table.kept([A, B]), table.weights([B])
            gauge = Gauge(table)
            gauge.push_row(any_row(source, twins[0], 6))
            gauge.mark()
            gauge.push(A)
            gauge.back(0)
            gauge.parted(gauge.fork())
            self.assertEqual((table.tail_pairs(), table.head_rows(), table.separators(), table.kept([A, B]), table.weights([B])), before)

    def test_a_longer_row(self):
        twin = twin_of(STEPS)
        gauge = Gauge(RowTable([twin.formula]))
        row = []
        for at in range(200):
            gauge.push([A, B][at % 3 % 2])
            row.append([A, B][at % 3 % 2])
        self.assertEqual(gauge.told(), [twin.formula(row)])
        self.assertEqual(len(gauge), 200)


if __name__ == "__main__":
    unittest.main()
