"""Points 3, 13 and 26: parting rows, widths and narrowest folds of formulas."""

import random
import unittest

from foldparts.compared import narrowest_of, parting_row, width_of
from foldparts.errors import OtherKinds, TooLarge, TooWide
from foldparts.folds import Fold
from foldparts.formulas import Formula
from foldparts.ratios import Ratio
from foldparts.tables import RowTable
from foldparts.width import narrowest, tails
from reference import FULL, MEAN, WORDS
from searches import EXAMPLES, any_row, rows_up_to, small_sketch
from test_formulas import Refused, formula_of
from twins import (
    ALWAYS, COUNT_A, COUNT_B, FAMILIES, FIELDS, LAST, LAST_IS_B, LETTERS, MANY, NEVER, ONE, POWERS, SQUARES, STEPS, PlainTable,
    items_of_kinds, random_twin, twin_of,
)

A, B = ("a", ()), ("b", ())


def searched_parting(first, second, longest):
    rows = rows_up_to(items_of_kinds(first.kinds), longest)
    return next((row for row in rows if first(row) != second(row)), None)


class Parting(Refused):
    def assert_parted(self, first, second, longest):
        """Whether they differ, as a search over all rows up to a length tells, too."""
        found = parting_row(first.formula, second.formula)
        self.assertEqual(parting_row(second.formula, first.formula), found)
        if found is None or len(found) > longest:
            self.assertIsNone(searched_parting(first, second, longest))
            return found is not None
        self.assertEqual(found, searched_parting(first, second, longest))
        self.assertIn(found, RowTable([first.formula, second.formula]).head_rows())
        self.assertIn(found, RowTable([second.formula, first.formula]).head_rows())
        return True

    def test_example_of_the_document(self):
        formula = formula_of(LAST)
        found = parting_row(formula.running().mirrored(), formula.mirrored().running())
        self.assertEqual(found, [("x", (0,)), ("x", (1,))])
        self.assertEqual(parting_row(second=formula.running().mirrored(), first=formula.mirrored().running()), found)

    def test_by_hand(self):
        many = formula_of(MANY)
        self.assertIsNone(parting_row(many, many))
        self.assertEqual(parting_row(many, -many), [A])
        self.assertEqual(parting_row(many, many.ahead([A])), [])
        self.assertEqual(parting_row(formula_of(COUNT_B), -formula_of(COUNT_A)), [A])
        self.assertEqual(parting_row(formula_of(COUNT_B), formula_of(LAST_IS_B)), [B, A])
        self.assertEqual(parting_row(formula_of(COUNT_B).only(["a"]), formula_of(NEVER)), None)
        self.assertEqual(parting_row(formula_of(LAST_IS_B), formula_of(LAST_IS_B).mirrored()), [A, B])

    def test_the_same_in_two_ways(self):
        source = random.Random(1)
        for family in FAMILIES:
            for _ in range(20):
                formula = random_twin(source, family, 3, 5).formula
                front, back = any_row(source, formula, 2, 3), any_row(source, formula, 2, 3)
                ways = [
                    (formula, formula), (formula, formula.mirrored().mirrored()), (formula * Ratio(2, 1), formula * Ratio(4, 1) * Ratio(1, 2)),
                    (-formula, formula * Ratio(-1, 1)), (formula.ahead(front).ahead(front), formula.ahead(front + front)),
                    (formula.ahead(front).behind(back), formula.behind(back).ahead(front)),
                ]
                if formula.size < 4:
                    ways += [(formula + formula, formula * Ratio(2, 1)), (formula - formula, formula * Ratio(0, 1))]
                for one, other in ways:
                    self.assertIsNone(parting_row(one, other))
                    self.assertIsNone(parting_row(other, one))

    def test_letters_against_all_rows(self):
        source = random.Random(2)
        parted = 0
        for _ in range(80):
            parted += self.assert_parted(random_twin(source, LETTERS, 3, 5), random_twin(source, LETTERS, 3, 5), 5)
        self.assertTrue(40 < parted, parted)

    def test_fields_against_all_rows(self):
        source = random.Random(3)
        for family in (FIELDS, SQUARES):
            for _ in range(20):
                self.assert_parted(random_twin(source, family, 3, 5), random_twin(source, family, 3, 5), 2)

    def test_late_differences(self):
        # Both tell 0 up to three items; then one of them tells whether the fourth one from behind was b.
        text = "fold f\n  start s = 0\n  start t = 0\n  start u = 0\n  item a\n    s = 0\n    t = s\n    u = t\n" \
            "  item b\n    s = {}\n    t = s\n    u = t\n  result u\nend"
        one, other = twin_of(text.format(1)), twin_of(text.format(2))
        self.assertEqual(parting_row(one.formula, other.formula), [B, A, A])
        self.assertTrue(self.assert_parted(one, other, 4))
        for many in range(3):
            changed = one.behind([A] * many)
            self.assertTrue(self.assert_parted(one, changed, 4) or many == 0)

    def test_what_is_refused(self):
        many, one = formula_of(MANY), formula_of(ONE)
        great = many.summed().summed().summed()
        other = formula_of(ONE.replace("item a", "item b"))
        self.assert_raises(OtherKinds, lambda: parting_row(great, other.summed().summed().summed()))
        self.assert_raises(OtherKinds, lambda: parting_row(other, one))
        self.assert_raises(OtherKinds, lambda: parting_row(first=formula_of(FIELDS[0]), second=formula_of(SQUARES[0])))
        self.assert_raises(TooLarge, lambda: parting_row(great, many.running()), size=11)
        self.assert_raises(TooLarge, lambda: parting_row(great, great), size=16)
        self.assertEqual(parting_row(great, many), [A, A])
        self.assertIsNone(parting_row(formula_of(FIELDS[0]), formula_of(FIELDS[0].replace("v", "w"))))

    def test_new_each_time(self):
        first, second = formula_of(COUNT_B), formula_of(LAST_IS_B)
        found = parting_row(first, second)
        found.append(7)
        self.assertEqual(parting_row(first, second), [B, A])


class Widths(Refused):
    def test_by_hand(self):
        many, always = formula_of(MANY), formula_of(ALWAYS)
        for formula, width in [
            (always, 0), (formula_of(NEVER), 0), (many, 1), (many - many, 0), (many.running(), 2), (many.summed(), 3), (many.mirrored(), 1),
            (always.running(), 1), (always.summed(), 2), (always.summed().summed(), 4), (always.only([]).running(), 1),
            (many.summed().summed().summed(), 7), (formula_of(LAST).running(), 1), (formula_of(LAST).running().running(), 2), (many * Ratio(0, 1), 0),
        ]:
            self.assertIs(type(width_of(formula)), int)
            self.assertEqual((width_of(formula), width_of(formula=formula)), (width, width))

    def test_of_folds(self):
        source = random.Random(4)
        for text in EXAMPLES + [MEAN, FULL, WORDS] + [small_sketch(source, 8).text() for _ in range(15)]:
            fold = Fold.parse(text)
            self.assertEqual(width_of(Formula(fold)), len(tails(fold)))

    def test_against_all_rows(self):
        source = random.Random(5)
        widths = set()
        for _ in range(30):
            twin = random_twin(source, LETTERS, 4, 7)
            plain = PlainTable([twin], 4)
            if plain.is_whole():
                self.assertEqual(width_of(twin.formula), len(plain.tails))
                widths.add(len(plain.tails))
        self.assertGreater(len(widths), 4)


class Narrowest(Refused):
    def assert_narrowest(self, twin):
        width = width_of(twin.formula)
        if width > 3:
            self.assert_raises(TooWide, lambda: narrowest_of(twin.formula), width=width)
            return width
        found = narrowest_of(twin.formula)
        self.assertIs(type(found), Fold)
        self.assertEqual((found.name, found.kinds, len(found.registers)), (twin.name, twin.kinds, width))
        fields = [field for name, names in twin.kinds for field in names]
        free = [letter for letter in "abcdefghijklmnopqrstuvwxyz" if letter not in fields]
        self.assertEqual([name for name, value in found.registers], free[:width])
        self.assertTrue(narrowest(found) == found)
        self.assertTrue(narrowest_of(Formula(found)) == found)
        self.assertTrue(Fold.parse(str(found)) == found)
        table = RowTable([twin.formula])
        source = random.Random(width)
        for row in rows_up_to(items_of_kinds(twin.kinds), 2) + [any_row(source, twin, 4, 20) for _ in range(3)]:
            self.assertEqual(found(row), twin.formula(row))
            self.assertEqual(found.registers_after(row), table.kept(row))
        self.assertIsNone(parting_row(Formula(found), twin.formula) if twin.size + width + 1 <= 10 else None)
        return width

    def test_by_hand(self):
        many = formula_of(MANY)
        self.assertEqual(str(narrowest_of(many.running())), "\n".join([
            "fold many", "  start a = 0", "  start b = 1", "  item a", "    a = b", "    b = -a + 2*b + 1", "  result a", "end",
        ]))
        self.assertEqual(str(narrowest_of(formula=-formula_of(ALWAYS))), "fold always\n  item a\n  item b\n  result -2/3\nend")
        self.assertEqual(str(narrowest_of(formula_of(LAST).mirrored())), "\n".join([
            "fold last", "  start a = 0", "  start b = 1", "  item x v", "    a = a - a*v + b*v", "    b = a - a*v + b*v",
            "  result a", "end",
        ]))

    def test_of_folds(self):
        source = random.Random(6)
        for text in EXAMPLES + [MEAN, FULL, WORDS] + [small_sketch(source, 8).text() for _ in range(15)]:
            fold = Fold.parse(text)
            self.assertTrue(narrowest_of(Formula(fold)) == narrowest(fold))

    def test_random_formulas(self):
        source = random.Random(7)
        for family in FAMILIES:
            widths = [self.assert_narrowest(random_twin(source, family, source.randrange(5))) for _ in range(30)]
            self.assertTrue(set(widths) >= {0, 1, 2, 3}, widths)
            self.assertTrue(max(widths) > 3)

    def test_widths_of_0_and_3_and_above(self):
        self.assertEqual(self.assert_narrowest(twin_of(NEVER)), 0)
        self.assertEqual(self.assert_narrowest(twin_of(MANY).summed()), 3)
        self.assertEqual(self.assert_narrowest(twin_of(MANY).summed().running()), 4)
        self.assertEqual(self.assert_narrowest(twin_of(MANY).summed().summed().summed()), 7)

    def test_the_name_and_kinds_of_the_first_fold(self):
        first, second = formula_of(FIELDS[2]), formula_of(FIELDS[1])
        self.assertEqual([narrowest_of(first - second).name, narrowest_of(second + first).name], ["lastx", "more"])
        self.assertEqual([narrowest_of(first - second).kinds, narrowest_of(second - first).kinds], [first.kinds, second.kinds])
        text = "fold f\n  start s = 0\n  item x {}\n    s = s + {}\n  result s\nend"
        one, other = formula_of(text.format("a", "a")), formula_of(text.format("b", "b"))
        self.assertEqual([name for name, value in narrowest_of(one + other).registers], ["b"])
        self.assertEqual([name for name, value in narrowest_of(other + one).registers], ["a"])

    def test_the_formula_does_not_change(self):
        formula = formula_of(STEPS).running() - formula_of(POWERS)
        before = str(formula([A, B])), formula.size
        width_of(formula), parting_row(formula, formula_of(COUNT_B))
        with self.assertRaises(TooWide):
            narrowest_of(formula)
        self.assertEqual((str(formula([A, B])), formula.size), before)


if __name__ == "__main__":
    unittest.main()
