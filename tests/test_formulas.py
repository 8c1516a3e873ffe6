"""Points 3, 6 and 22 to 24: item weights, formulas, what is made of them, and what is refused."""

import copy
import random
import unittest
from fractions import Fraction

from foldparts.errors import BadItem, OtherKinds, PartError, TooLarge, UnknownKind
from foldparts.folds import Fold
from foldparts.formulas import Formula, item_weights
from foldparts.ratios import Ratio
from reference import FULL, MEAN, WORDS
from searches import EXAMPLES, MOMENT, TURNS, any_item, any_row, fold_and_results, fraction_of, ratio_of, rows_up_to, texts
from test_width import no_items
from twins import (
    ALWAYS, COUNT_A, COUNT_B, FAMILIES, FIELDS, LAST, LETTERS, MANY, ONE, POWERS, SQUARES, STEPS, few_items, items_of_kinds, longer_twin,
    random_twin, twin_of,
)

KINDS = (("none", ()), ("one", ("v",)), ("two", ("f", "g")))


def formula_of(text):
    return Formula(Fold.parse(text))


class Refused(unittest.TestCase):
    def assert_raises(self, one, called, **attributes):
        for caught in (one, PartError, ValueError):
            with self.assertRaises(caught) as found:
                called()
            self.assertIs(type(found.exception), one)
            self.assertEqual(vars(found.exception), attributes)


class ItemWeights(unittest.TestCase):
    def test_by_hand(self):
        for item, weights in [
            (("none", ()), [1]), (("one", (0,)), [1, 0, 0]), (("one", (1,)), [0, 1, 0]), (("one", (2,)), [0, 0, 1]),
            (("one", (3,)), [1, -3, 3]), (("one", (-1,)), [3, -3, 1]), (("one", (1000,)), [498501, -998000, 499500]),
            (("one", (-1000,)), [501501, -1002000, 500500]),
            (("two", (0, 0)), [1, 0, 0, 0, 0, 0]), (("two", (0, 1)), [0, 1, 0, 0, 0, 0]), (("two", (0, 2)), [0, 0, 1, 0, 0, 0]),
            (("two", (1, 0)), [0, 0, 0, 1, 0, 0]), (("two", (1, 1)), [0, 0, 0, 0, 1, 0]), (("two", (2, 0)), [0, 0, 0, 0, 0, 1]),
            (("two", (3, 5)), [21, -30, 10, -18, 15, 3]), (("two", (-1, 4)), [1, -4, 6, 1, -4, 1]),
            (("two", (-1000, 1000)), [1, 2000, 499500, -2000, -1000000, 500500]),
            (("two", (1000, 1000)), [1997001, -1998000, 499500, -1998000, 1000000, 499500]),
        ]:
            found = item_weights(KINDS, item)
            self.assertIs(type(found), list)
            self.assertTrue(all(type(weight) is int for weight in found))
            self.assertEqual(found, weights)
            self.assertEqual(item_weights(item=item, kinds=KINDS), weights)

    def test_the_words_of_the_document(self):
        source = random.Random(1)
        for _ in range(200):
            v, f, g = [source.choice([-1000, 1000, source.randrange(-1000, 1001), source.randrange(-3, 4)]) for _ in range(3)]
            self.assertEqual(item_weights(KINDS, ("one", (v,))), [Fraction((v - 1) * (v - 2), 2), v * (2 - v), Fraction(v * (v - 1), 2)])
            s = f + g
            self.assertEqual(item_weights(KINDS, ("two", (f, g))), [
                Fraction((1 - s) * (2 - s), 2), g * (2 - s), Fraction(g * (g - 1), 2), f * (2 - s), f * g, Fraction(f * (f - 1), 2),
            ])

    def test_they_add_up_to_1(self):
        source = random.Random(2)
        for _ in range(300):
            name, fields = source.choice(KINDS)
            item = (name, tuple(source.randrange(-1000, 1001) for field in fields))
            self.assertEqual(sum(item_weights(KINDS, item)), 1)

    def test_new_each_time_and_nothing_changes(self):
        for item in (("none", ()), ("one", (5,)), ("two", (5, 7))):
            first = item_weights(KINDS, item)
            before = list(first)
            first.clear()
            self.assertEqual(item_weights(KINDS, item), before)
        self.assertEqual(KINDS, (("none", ()), ("one", ("v",)), ("two", ("f", "g"))))

    def test_values_of_formulas_of_every_sort(self):
        source = random.Random(3)
        for family in FAMILIES:
            for _ in range(25):
                formula = random_twin(source, family, 4).formula
                u, v = any_row(source, formula, 3, 20), any_row(source, formula, 3, 20)
                self.assert_sum_by_weights(formula, u, any_item(source, formula), v)

    def assert_sum_by_weights(self, formula, u, item, v):
        kind = [other for other in items_of_kinds(formula.kinds) if other[0] == item[0]]
        weights = item_weights(formula.kinds, item)
        self.assertEqual(len(weights), len(kind))
        total = Ratio(0, 1)
        for weight, other in zip(weights, kind):
            total = total + Ratio(weight, 1) * formula(u + [other] + v)
        self.assertEqual(formula(u + [item] + v), total)


class Values(unittest.TestCase):
    def assert_twin(self, twin, rows):
        self.assertEqual((twin.formula.size, twin.formula.kinds, twin.formula.name), (twin.size, twin.kinds, twin.name))
        for row in rows:
            row = list(row)
            before = copy.deepcopy(row)
            found = twin.formula(row)
            self.assertIs(type(found), Ratio)
            self.assertEqual(found, ratio_of(Fraction(twin(row))), row)
            self.assertEqual(row, before)

    def rows(self, source, twin):
        return [[], few_items(source, twin, 1), few_items(source, twin, 5), any_row(source, twin, 3), any_row(source, twin, 6)]

    def test_examples_of_the_document(self):
        one = formula_of(ONE)
        row = [("a", ())] * 2
        self.assertEqual([str(one(row)), str(one.running()(row)), str(one.summed()(row)), one.summed().size], ["1", "3", "6", 3])
        formula = Formula(fold=Fold.parse(LAST))
        row = [("x", (0,)), ("x", (1,))]
        self.assertEqual([str(formula.running().mirrored()(row)), str(formula.mirrored().running()(row=row))], ["1", "0"])

    def test_of_a_fold(self):
        source = random.Random(4)
        for text in EXAMPLES + [MEAN, FULL, WORDS]:
            fold, results = fold_and_results(text)
            formula = Formula(fold)
            self.assertEqual((formula.size, formula.kinds, formula.name), (len(fold.registers) + 1, fold.kinds, fold.name))
            for row in [[]] + [any_row(source, fold, 6) for _ in range(4)]:
                self.assertEqual(formula(row), fold(row))
                self.assertEqual(formula(row), ratio_of(results(row)))

    def test_each_operation_by_hand(self):
        a, b = ("a", ()), ("b", ())
        steps, count = formula_of(POWERS), formula_of(COUNT_B)
        row = [a, b, a]
        told = {
            "fold": steps, "sum": steps + count, "difference": steps - count, "minus": -steps, "times": steps * Ratio(2, 3),
            "mirrored": steps.mirrored(), "running": steps.running(), "summed": steps.summed(), "ahead": count.ahead([b, b, a]),
            "behind": steps.behind([b]), "only": steps.only(["a"]), "none": steps.only([]),
        }
        values = {"fold": "-17/2", "sum": "-15/2", "difference": "-19/2", "minus": "17/2", "times": "-17/3", "mirrored": "-17/2"}
        # 3**x * (-1/2)**y for row[:0], a, ab, aba; each less 4.
        values["running"] = "-18"
        values["summed"] = str(ratio_of(4 + 3 - Fraction(1, 2) + 3 + 2 * Fraction(-3, 2) + Fraction(-9, 2) - 40))
        values.update({"ahead": "3", "behind": "-7/4", "only": "5", "none": "-3"})
        self.assertEqual({name: str(formula(row)) for name, formula in told.items()}, values)

    def test_each_operation_alone(self):
        source = random.Random(5)
        for family in FAMILIES:
            for text in family:
                twin, other = twin_of(text), twin_of(source.choice(family))
                names = [name for name, fields in twin.kinds]
                ways = [
                    twin, twin + other, other + twin, twin - other, other - twin, twin - twin, -twin, twin * Fraction(0), twin * Fraction(-5, 7),
                    twin.mirrored(), twin.running(), twin.summed(), twin.ahead([]), twin.ahead(any_row(source, twin, 4)), twin.behind([]),
                    twin.behind(any_row(source, twin, 4)), twin.only([]), twin.only(names), twin.only(names[::-1]), twin.only(names[:1]),
                    twin.only(names[1:]), twin.ahead(any_row(source, twin, 12)), twin.behind(any_row(source, twin, 12)),
                ]
                for way in ways:
                    self.assert_twin(way, self.rows(source, way))

    def test_each_operation_upon_each_other(self):
        source = random.Random(6)

        def ways_of(twin):
            front, back = few_items(source, twin, 2), few_items(source, twin, 2)
            names = [name for name, fields in twin.kinds][1:]
            return [-twin, twin * Fraction(2, 3), twin.mirrored(), twin.running(), twin.summed(), twin.ahead(front), twin.behind(back),
                    twin.only(names), twin + twin_of(source.choice(family)), twin_of(source.choice(family)) - twin]

        for family in FAMILIES:
            small = [text for text in family if twin_of(text).size < 4][0]
            for first in ways_of(twin_of(small)):
                for second in ways_of(first):
                    self.assert_twin(second, [[], few_items(source, second, 4), any_row(source, second, 3)])

    def test_many_operations(self):
        source = random.Random(7)
        for family in FAMILIES:
            sizes = set()
            for _ in range(40):
                twin = random_twin(source, family, source.randrange(2, 8))
                sizes.add(twin.size)
                self.assert_twin(twin, self.rows(source, twin))
            self.assertIn(8, sizes)

    def test_forty_operations(self):
        source = random.Random(8)
        for family in FAMILIES:
            twin = twin_of(family[0])
            for _ in range(40):
                twin = longer_twin(source, family, twin, 8)
            self.assert_twin(twin, [[], few_items(source, twin, 2), few_items(source, twin, 3)])

    def test_all_short_rows(self):
        source = random.Random(9)
        for _ in range(30):
            twin = random_twin(source, LETTERS, 6)
            self.assert_twin(twin, rows_up_to(items_of_kinds(twin.kinds), 4))

    def test_the_row_is_read_only_once_it_is_asked(self):
        source = random.Random(10)
        twin = random_twin(source, LETTERS, 6)
        row = []
        for _ in range(6):
            self.assert_twin(twin, [row, row])
            row.append(source.choice([("a", ()), ("b", ())]))
        row[0] = ("b", ()) if row[0] == ("a", ()) else ("a", ())
        self.assert_twin(twin, [row])
        row.reverse()
        self.assert_twin(twin, [row])
        row.clear()
        self.assert_twin(twin, [row])

    def test_formulas_with_a_common_part_in_turns(self):
        source = random.Random(11)
        for family in FAMILIES:
            part = random_twin(source, family, 2, 5)
            first, second = part.running().mirrored(), -part.mirrored().running()
            for row in self.rows(source, part):
                for twin in (first, second, part, first, second, second, part):
                    self.assert_twin(twin, [row])
        a = ("a", ())
        many = formula_of(MANY)
        both = [many.ahead([a]), many.ahead([a, a]), many.running(), many.running().running()]
        self.assertEqual([texts(formula([a, a]) for formula in both) for _ in range(2)], [["3", "4", "3", "4"]] * 2)

    def test_what_the_size_and_the_name_are(self):
        steps, count, other = formula_of(STEPS), formula_of(COUNT_B), formula_of(ALWAYS)
        self.assertEqual([steps.size, count.size, other.size], [3, 2, 1])
        self.assertEqual([(steps + count).name, (count - steps).name, (-other).name], ["steps", "count", "always"])
        self.assertEqual((other - steps.summed() * Ratio(1, 2)).size, 6)
        self.assertEqual((steps + count).running().ahead([]).mirrored().only(["b"]).size, 6)
        first, second = formula_of(FIELDS[0]), formula_of(FIELDS[1])
        self.assertEqual((first - second).kinds, (("x", ("v",)), ("y", ())))
        self.assertEqual((second + first).running().kinds, (("x", ("w",)), ("y", ())))
        self.assertEqual((second.mirrored() - first).name, "more")
        for formula in (first, first + second, first.running().only([])):
            self.assertIs(type(formula.kinds), tuple)
            self.assertLessEqual({"size", "kinds", "name"}, set(vars(formula)))


class WhatIsRefused(Refused):
    def test_other_kinds_and_sizes(self):
        small, other = formula_of(MANY), formula_of(ONE.replace("item a", "item b"))
        for one, another in [(small, other), (other, small)]:
            self.assert_raises(OtherKinds, lambda: one + another)
            self.assert_raises(OtherKinds, lambda: one - another)
        great, far = small.summed().summed().summed(), other.summed().summed().summed().running()
        self.assertEqual([great.size, far.size], [8, 8])
        self.assert_raises(OtherKinds, lambda: great + far)
        self.assert_raises(OtherKinds, lambda: great - far)
        self.assert_raises(TooLarge, lambda: great + small, size=10)
        self.assert_raises(TooLarge, lambda: great - great, size=16)
        self.assert_raises(TooLarge, lambda: formula_of(ONE) + great, size=9)
        self.assert_raises(TooLarge, lambda: great.running(), size=9)
        self.assert_raises(TooLarge, lambda: great.summed(), size=10)
        self.assert_raises(TooLarge, lambda: small.summed().summed().running().summed(), size=9)
        self.assertEqual(small.summed().summed().running().running().size, 8)
        self.assertEqual((small.summed() + small.summed()).size, 8)
        self.assertEqual(small.summed().summed().summed().size, 8)

    def test_which_kinds_are_the_same(self):
        text = "fold f\n  start s = 0\n{}  result s\nend"
        shapes = ["  item a v\n  item b\n", "  item a w\n  item b\n", "  item b\n  item a v\n", "  item a\n  item b\n", "  item a v\n",
                  "  item a v w\n  item b\n", "  item a v\n  item c\n", "  item a v\n  item b\n  item c\n", "  item a v\n  item b v\n"]
        formulas = [formula_of(text.format(shape)) for shape in shapes]
        for at, one in enumerate(formulas):
            for to, other in enumerate(formulas):
                if {at, to} in ({0, 1}, {at}):
                    self.assertEqual([(one + other).kinds, (one - other).kinds], [one.kinds] * 2)
                else:
                    self.assert_raises(OtherKinds, lambda: one + other)
                    self.assert_raises(OtherKinds, lambda: one.running() - other.mirrored())

    def test_what_is_no_item(self):
        for formula in (formula_of(TURNS), formula_of("fold f\n  item x v\n  result 1/2\nend"), formula_of(TURNS).only([]),
                        formula_of(TURNS).running().mirrored() - formula_of(TURNS)):
            good = [("x", (3,)), ("x", (-1000,)), ("x", (1000,))]
            for item in no_items():
                for at in (0, 2, 3):
                    row = good[:at] + [item] + good[at:]
                    before = copy.deepcopy(row)
                    for called in (formula, formula.ahead, formula.behind):
                        self.assert_raises(BadItem, lambda: called(row), index=at)
                    self.assertEqual(row, before)
            for called in (formula, formula.ahead, formula.behind):
                self.assert_raises(BadItem, lambda: called(good * 3 + [None, 7]), index=9)
                self.assert_raises(BadItem, lambda: called([7, None]), index=0)

    def test_unknown_kinds(self):
        formula = formula_of(MOMENT)
        for names, first in [(["y"], "y"), (["x", "cut", "f"], "f"), (["", "x"], ""), (["X", "y"], "X"), (["x", "moment", "g"], "moment"),
                             (["cu", "t"], "cu")]:
            before = list(names)
            self.assert_raises(UnknownKind, lambda: formula.only(names), name=first)
            self.assert_raises(UnknownKind, lambda: (formula + formula).running().only(names=names), name=first)
            self.assertEqual(names, before)
        # A sum has the kinds of both, which have the same names.
        both = formula_of(FIELDS[0]) + formula_of(FIELDS[1])
        self.assert_raises(UnknownKind, lambda: both.only(["x", "v"]), name="v")

    def test_nothing_else_changes(self):
        source = random.Random(12)
        twin = twin_of(STEPS)
        row = few_items(source, twin, 6)
        before = str(twin.formula(row)), twin.formula.size, twin.formula.kinds, twin.formula.name
        for called in (lambda: twin.formula([7]), lambda: twin.formula.only(["c"]), lambda: twin.formula + formula_of(MANY),
                       lambda: twin.formula.summed().summed().summed(), lambda: twin.formula.ahead([None])):
            with self.assertRaises(PartError):
                called()
            self.assertEqual((str(twin.formula(row)), twin.formula.size, twin.formula.kinds, twin.formula.name), before)


class Copies(unittest.TestCase):
    def test_fronts_backs_and_names_are_copied(self):
        a, b = ("a", ()), ("b", ())
        formula = formula_of(POWERS)
        for way in ("ahead", "behind"):
            given = [a, b, b]
            made = getattr(formula, way)(given)
            before = str(made([a]))
            given.append(a)
            given[0] = b
            self.assertEqual(str(made([a])), before)
            given.clear()
            self.assertEqual(str(made([a])), before)
        names = ["a"]
        made = formula.only(names)
        names[0] = "b"
        names.append("c")
        self.assertEqual(str(made([a, b, a])), "5")
        row = [a, b]
        self.assertEqual(str(formula.ahead(front=row)(row)), str(formula(row + row)))
        self.assertEqual(str(formula.behind(back=row)(row)), str(formula(row + row)))
        self.assertEqual(row, [a, b])

    def test_a_formula_never_changes(self):
        source = random.Random(13)
        for family in FAMILIES:
            twin = random_twin(source, family, 3, 6)
            formula = twin.formula
            row = any_row(source, twin, 5)
            before = str(formula(row)), formula.size, formula.kinds, formula.name
            names = [name for name, fields in twin.kinds]
            made = [formula.mirrored(), formula.running(), formula.summed(), -formula, formula * Ratio(3, 1), formula.ahead(row),
                    formula.behind(row), formula.only(names[:1])]
            if formula.size < 5:
                made += [formula + formula, formula - formula]
            for other in made:
                other(row)
                self.assertIsNot(other, formula)
                self.assertEqual((str(formula(row)), formula.size, formula.kinds, formula.name), before)
            self.assertEqual(fraction_of(formula(row)), twin(row))

    def test_the_fold_does_not_change(self):
        fold = Fold.parse(STEPS)
        formula = Formula(fold).running().mirrored().summed()
        formula([("a", ())])
        self.assertEqual(str(fold), STEPS)
        self.assertTrue(fold == Fold.parse(STEPS))

    def test_not_compared(self):
        # Two formulas of one fold are not equal, and each is equal to itself only.
        first, second = formula_of(COUNT_A), formula_of(COUNT_A)
        self.assertFalse(first == second)
        self.assertTrue(first == first)

    def test_far_items(self):
        for text in SQUARES:
            twin = twin_of(text)
            row = [("put", (-1000, 1000)), ("cut", ()), ("put", (1000, 1000)), ("put", (999, -1000))]
            for way in (twin, twin.mirrored(), twin.running(), twin.summed(), twin.ahead(row), twin.behind(row), twin.only(["put"])):
                self.assertEqual(fraction_of(way.formula(row)), way(row))


if __name__ == "__main__":
    unittest.main()
