"""Point 31: what holds of every formula."""

import random
import unittest

from foldparts.compared import parting_row, width_of
from foldparts.ratios import Ratio
from searches import any_item, any_row
from test_formulas import formula_of
from twins import COUNT_B, FAMILIES, LAST, MANY, ONE, STEPS, random_twin

A, B = ("a", ()), ("b", ())


class Facts(unittest.TestCase):
    def each_formula(self, seed, many, most_size):
        source = random.Random(seed)
        for family in FAMILIES:
            for _ in range(many):
                twin = random_twin(source, family, source.randrange(5), most_size)
                yield source, family, twin.formula

    def assert_same(self, source, one, other):
        """Both are the same by parting_row, if that may be asked, and by values."""
        if one.size + other.size <= 10:
            self.assertIsNone(parting_row(one, other))
        for row in [[], any_row(source, one, 2, 3), any_row(source, one, 4), any_row(source, one, 6, 9)]:
            self.assertEqual(one(row), other(row))

    def test_mirrored_twice(self):
        for source, family, f in self.each_formula(1, 15, 5):
            self.assert_same(source, f.mirrored().mirrored(), f)

    def test_summed_is_mirrored_running_mirrored_running(self):
        for most_size in (3, 6):
            for source, family, f in self.each_formula(2, 12, most_size):
                self.assert_same(source, f.summed(), f.mirrored().running().mirrored().running())
                self.assert_same(source, f.summed(), f.running().mirrored().running().mirrored())

    def test_summed_and_mirrored(self):
        for most_size in (3, 6):
            for source, family, f in self.each_formula(3, 12, most_size):
                self.assert_same(source, f.summed().mirrored(), f.mirrored().summed())

    def test_ahead_and_behind_twice(self):
        for source, family, f in self.each_formula(4, 15, 5):
            r, s = any_row(source, f, 3), any_row(source, f, 3, 4)
            self.assert_same(source, f.ahead(r).ahead(s), f.ahead(r + s))
            self.assert_same(source, f.behind(r).behind(s), f.behind(s + r))
            self.assert_same(source, f.ahead(r).behind(s), f.behind(s).ahead(r))

    def test_ahead_and_mirrored(self):
        for source, family, f in self.each_formula(5, 15, 5):
            r = any_row(source, f, 4)
            self.assert_same(source, f.ahead(r).mirrored(), f.mirrored().behind(r[::-1]))
            self.assert_same(source, f.behind(r).mirrored(), f.mirrored().ahead(r[::-1]))

    def test_running_behind_an_item(self):
        for source, family, f in self.each_formula(6, 20, 3):
            item = [any_item(source, f)]
            self.assert_same(source, f.running().behind(item), f.running() + f.behind(item))

    def test_running_ahead_is_ahead_running_but_for_a_constant(self):
        for source, family, f in self.each_formula(7, 20, 3):
            r = any_row(source, f, 3)
            difference = f.running().ahead(r) - f.ahead(r).running()
            self.assertEqual(width_of(difference), 0)
            for row in ([], any_row(source, f, 5)):
                self.assertEqual(difference(row), difference([]))

    def test_only_twice(self):
        for source, family, f in self.each_formula(8, 15, 5):
            names = [name for name, fields in f.kinds]
            first = source.sample(names, source.randrange(len(names) + 1))
            second = source.sample(names, source.randrange(len(names) + 1))
            both = [name for name in names if name in first and name in second]
            self.assert_same(source, f.only(first).only(second), f.only(both))
            self.assert_same(source, f.only(names), f)
            self.assert_same(source, f.only(first).mirrored(), f.mirrored().only(first))

    def test_all_go_through_sums_differences_and_products(self):
        for source, family, f in self.each_formula(9, 12, 2):
            g = random_twin(source, family, 2, 2).formula
            r = any_row(source, f, 3)
            names = [name for name, fields in f.kinds][:1]
            factor = Ratio(-3, 7)
            ways = [lambda one: one.mirrored(), lambda one: one.running(), lambda one: one.summed(), lambda one: one.ahead(r),
                    lambda one: one.behind(r), lambda one: one.only(names), lambda one: -one, lambda one: one * Ratio(2, 1)]
            for way in ways:
                self.assert_same(source, way(f + g), way(f) + way(g))
                self.assert_same(source, way(f - g), way(f) - way(g))
                self.assert_same(source, way(f * factor), way(f) * factor)
                self.assert_same(source, way(-f), -way(f))

    def test_what_cannot_be_exchanged(self):
        last, many = formula_of(LAST), formula_of(COUNT_B)
        row = parting_row(last.running().mirrored(), last.mirrored().running())
        self.assertEqual(row, [("x", (0,)), ("x", (1,))])
        self.assertNotEqual(last.running().mirrored()(row), last.mirrored().running()(row))
        row = parting_row(many.running().only(["b"]), many.only(["b"]).running())
        self.assertEqual(row, [B, A])
        one = formula_of("fold one\n  item a\n  item b\n  result 1\nend")
        self.assertEqual(parting_row(one.running().only(["b"]), one.only(["b"]).running()), [A])
        self.assertEqual(parting_row(one.running().only([]), one.only([]).running()), [A])

    def test_widths(self):
        apart = {}
        for source, family, f in self.each_formula(10, 40, 7):
            widths = width_of(f), width_of(f.mirrored()), width_of(f.running())
            self.assertLessEqual(max(widths[0], widths[1]) - min(widths[0], widths[1]), 1)
            self.assertLessEqual(max(widths[0], widths[2]) - min(widths[0], widths[2]), 1)
            self.assertLessEqual(widths[0], f.size)
            apart[(widths[1] - widths[0], widths[2] - widths[0])] = True
        self.assertTrue({-1, 0, 1} == {key[0] for key in apart}, apart)
        self.assertLessEqual({0, 1}, {key[1] for key in apart})
        # A width less by one.
        last = formula_of(LAST)
        difference = last - last.behind([("x", (0,))])
        self.assertEqual([width_of(last.mirrored()), width_of(last)], [2, 1])
        self.assertEqual(width_of(difference.running()), 1)
        self.assertEqual([width_of(formula_of(ONE)), width_of(formula_of(MANY).running()), width_of(formula_of(STEPS))], [0, 2, 2])


if __name__ == "__main__":
    unittest.main()
