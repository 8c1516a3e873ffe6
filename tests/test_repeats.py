"""Points 3 and 28: recursions."""

import copy
import random
import unittest
from fractions import Fraction

from foldparts.compared import width_of
from foldparts.errors import BadItem
from foldparts.ratios import Ratio
from foldparts.repeats import recursion
from searches import DELAY, TURNS, Basis, any_row, fraction_of, texts
from test_formulas import Refused, formula_of
from test_width import no_items
from twins import ALWAYS, COUNT_B, FAMILIES, LAST, LETTERS, MANY, ONE, POWERS, STEPS, few_items, random_twin, twin_of

A, B = ("a", ()), ("b", ())


class RecursionTest(Refused):
    def assert_recursion(self, twin, front, piece, back, many=19):
        """That it holds from d on, and that no shorter one does. Returns d."""
        given = copy.deepcopy((front, piece, back))
        found = recursion(twin.formula, front, piece, back)
        self.assertEqual((front, piece, back), given)
        self.assertIs(type(found), tuple)
        self.assertTrue(all(type(number) is Ratio for number in found))
        values = [twin(front + piece * n + back) for n in range(many)]
        constant, *factors = [fraction_of(number) for number in found]
        depth = len(factors)
        for n in range(depth, many):
            self.assertEqual(values[n], constant + sum(factor * values[n - at - 1] for at, factor in enumerate(factors)))
        # A shorter one would make one of these a combination of 1 and the earlier ones.
        length = many - depth
        basis = Basis()
        basis.add([Fraction(1)] * length)
        self.assertTrue(all(basis.add(values[at:at + length]) for at in range(depth)))
        self.assertLessEqual(depth, width_of(twin.formula))
        return depth


class Recursions(RecursionTest):
    def test_example_of_the_document(self):
        many = formula_of(MANY)
        self.assertEqual([str(number) for number in recursion(many, [], [A] * 3, [])], ["3", "1"])
        self.assertEqual(texts(recursion(back=[], piece=[A] * 3, front=[A], formula=many)), ["3", "1"])

    def test_by_hand(self):
        many, powers, steps = formula_of(MANY), formula_of(POWERS), formula_of(STEPS)
        for formula, front, piece, back, told in [
            (many, [A], [], [A], ["2"]), (many, [], [], [], ["0"]), (formula_of(ALWAYS), [], [A, B], [], ["2/3"]),
            (many - many, [], [A], [], ["0"]), (formula_of(ONE).running(), [], [A], [], ["1", "1"]),
            (powers, [], [A], [], ["8", "3"]), (powers, [B], [A, B], [B], ["-10", "-3/2"]), (powers, [], [A, B, B], [], ["-1", "3/4"]),
            (many.running(), [], [A], [], ["1", "2", "-1"]), (many.summed(), [], [A], [], ["1", "3", "-3", "1"]),
            (formula_of(COUNT_B), [B], [A], [B], ["2"]), (formula_of(COUNT_B), [], [A, B, B], [], ["2", "1"]),
            (steps, [A], [B], [], ["1/2", "1"]), (steps.only(["a"]), [], [B], [], ["1"]), (steps, [], [A], [], ["3/2", "1"]),
        ]:
            self.assertEqual(texts(recursion(formula, front, piece, back)), told)

    def test_the_last_number_may_be_0(self):
        # From the first repetition on, the last item is the same.
        last = formula_of(LAST)
        self.assertEqual(texts(recursion(last, [("x", (7,))], [("x", (5,))], [])), ["5", "0"])
        self.assertEqual(texts(recursion(last, [("x", (5,))], [("x", (5,))], [])), ["5"])
        self.assertEqual(texts(recursion(last, [("x", (7,))], [("x", (5,))], [("x", (9,))])), ["9"])
        self.assertEqual(texts(recursion(formula_of(DELAY), [], [("x", (4,))], [])), ["4", "0", "0", "0"])
        self.assertEqual(texts(recursion(formula_of(DELAY), [("x", (4,))] * 2, [("x", (4,))], [])), ["4", "0"])
        for text in (LAST, DELAY):
            twin = twin_of(text)
            for front in ([], [("x", (4,))], [("x", (-1000,))] * 4):
                self.assert_recursion(twin, front, [("x", (1000,))], [])
                self.assert_recursion(twin, front, [("x", (1000,)), ("x", (4,))], [("x", (3,))])

    def test_random_formulas(self):
        source = random.Random(1)
        for family in FAMILIES:
            depths = {}
            for _ in range(90):
                twin = random_twin(source, family, source.randrange(7))
                rows = [few_items(source, twin, 2) for _ in range(3)]
                depth = self.assert_recursion(twin, *rows)
                depths[depth] = depths.get(depth, 0) + 1
            self.assertTrue(set(depths) >= {0, 1, 2, 3} and max(depths) > 3, depths)

    def test_far_items_and_longer_rows(self):
        source = random.Random(2)
        for family in FAMILIES:
            for _ in range(4):
                twin = random_twin(source, family, 3, 5)
                self.assert_recursion(twin, any_row(source, twin, 6), any_row(source, twin, 3), any_row(source, twin, 6), 13)

    def test_the_deepest(self):
        many = twin_of(MANY)
        self.assertEqual(self.assert_recursion(many.summed().summed().summed(), [], [A], []), 7)
        self.assertEqual(self.assert_recursion(many.summed().summed().running().running(), [A], [A, A], [A]), 7)
        powers = twin_of(POWERS)
        self.assertEqual(self.assert_recursion(powers.summed() + powers.only(["b"]).summed(), [B], [A, B], []), 4)

    def test_empty_rows(self):
        source = random.Random(3)
        for _ in range(10):
            twin = random_twin(source, LETTERS, 3)
            front, back = few_items(source, twin, 3), few_items(source, twin, 3)
            found = recursion(twin.formula, front, [], back)
            self.assertEqual(found, (twin.formula(front + back),))
            self.assert_recursion(twin, [], [A, B], [])


class WhatIsRefused(RecursionTest):
    def test_what_is_no_item(self):
        formula = formula_of(TURNS)
        good = [("x", (3,)), ("x", (-1000,)), ("x", (1000,))]
        for item in no_items():
            for at in (0, 1, 3):
                bad = good[:at] + [item] + good[at:]
                other = good[:2] + [item]
                before = copy.deepcopy(bad)
                for rows in [(bad, good, good), (good, bad, good), (good, good, bad), ([], [], bad), (bad, other, other), (good, bad, other),
                             (bad, good, other), (bad, other, good)]:
                    self.assert_raises(BadItem, lambda: recursion(formula, *rows), index=at)
                self.assertEqual(bad, before)

    def test_front_then_piece_then_back(self):
        formula = formula_of(MANY).running().mirrored()
        one, two, three = [None], [A, None], [A, A, None]
        for front, piece, back, index in [
            (three, one, two, 2), (one, two, three, 0), ([], three, one, 2), ([A], two, one, 1), ([A, A], [], three, 2), (two, [], one, 1),
        ]:
            self.assert_raises(BadItem, lambda: recursion(formula, front, piece, back), index=index)
            self.assert_raises(BadItem, lambda: recursion(back=back, piece=piece, front=front, formula=formula), index=index)

    def test_the_formula_does_not_change(self):
        formula = formula_of(STEPS).running()
        before = str(formula([A, B, B]))
        first = recursion(formula, [A], [B, A], [B])
        with self.assertRaises(BadItem):
            recursion(formula, [A], [B, A, 7], [B])
        self.assertEqual(recursion(formula, [A], [B, A], [B]), first)
        self.assertEqual(str(formula([A, B, B])), before)


if __name__ == "__main__":
    unittest.main()
