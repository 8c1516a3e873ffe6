import unittest
from fractions import Fraction
from math import gcd

from foldparts.errors import InvalidText, PartError, ZeroDenominator
from foldparts.ratios import Ratio

TOPS = [0, 1, -1, 2, -2, 3, 6, -6, 10, 12, -35, 97, 1000, 7 ** 40, -6 ** 50, 10 ** 400, 3 * 10 ** 5000]
BOTTOMS = [number for number in TOPS if number != 0]
SMALL = [(0, 1), (1, 1), (-1, 1), (1, 2), (-1, 2), (2, 3), (-3, 2), (5, 1), (-5, 7), (10 ** 30, 7), (7, 10 ** 30)]


def ratio_of(fraction):
    return Ratio(fraction.numerator, fraction.denominator)


class Building(unittest.TestCase):
    def test_lowest_terms_and_positive_bottom(self):
        for top in TOPS:
            for bottom in BOTTOMS:
                ratio = Ratio(top, bottom)
                fraction = Fraction(top, bottom)
                self.assertTrue((ratio.top, ratio.bottom) == (fraction.numerator, fraction.denominator))
                self.assertGreater(ratio.bottom, 0)
                self.assertEqual(gcd(ratio.top, ratio.bottom), 1)

    def test_some_by_hand(self):
        for top, bottom, found in [
            (4, 6, (2, 3)), (4, -6, (-2, 3)), (-4, 6, (-2, 3)), (-4, -6, (2, 3)), (0, 5, (0, 1)),
            (0, -5, (0, 1)), (8, 4, (2, 1)), (8, -4, (-2, 1)), (5, 5, (1, 1)), (-1, 3, (-1, 3)),
        ]:
            ratio = Ratio(top, bottom)
            self.assertEqual((ratio.top, ratio.bottom), found)

    def test_by_name(self):
        ratio = Ratio(bottom=-6, top=3)
        self.assertEqual((ratio.top, ratio.bottom), (-1, 2))

    def test_attributes_are_set_on_the_object(self):
        self.assertLessEqual({"top", "bottom"}, set(vars(Ratio(1, 2))))
        self.assertIs(type(Ratio(4, 2).top), int)
        self.assertIs(type(Ratio(4, 2).bottom), int)

    def test_zero_below(self):
        for top in TOPS:
            for caught in (ZeroDenominator, PartError, ValueError):
                with self.assertRaises(caught):
                    Ratio(top, 0)

    def test_str(self):
        for top, bottom, text in [
            (0, 1, "0"), (0, -7, "0"), (1, 1, "1"), (-1, 1, "-1"), (4, 3, "4/3"), (-4, 3, "-4/3"), (4, -3, "-4/3"),
            (12, 1, "12"), (12, 4, "3"), (1, 1000, "1/1000"), (10 ** 300, 1, "1" + "0" * 300),
            (-1, 10 ** 300, "-1/1" + "0" * 300),
        ]:
            self.assertEqual(str(Ratio(top, bottom)), text)

    def test_str_of_very_long_numbers(self):
        for many in (599, 600, 601, 1199, 1200, 1201, 4299, 4300, 4301, 9000):
            self.assertTrue(str(Ratio(10 ** many, 1)) == "1" + "0" * many)
            self.assertTrue(str(Ratio(-10 ** many - 7, 3 ** 9)) == f"-1{'0' * (many - 1)}7/19683")
            self.assertTrue(str(Ratio(1, 10 ** many - 1)) == "1/" + "9" * many)

    def test_repr(self):
        self.assertEqual(repr(Ratio(4, -6)), "Ratio(-2, 3)")

    def test_example_of_the_document(self):
        ratio = Ratio(1, -6) + Ratio(1, 2) * Ratio(3, 1)
        self.assertEqual([str(ratio), ratio == Ratio(4, 3), str(-ratio)], ["4/3", True, "-4/3"])


class Operators(unittest.TestCase):
    def test_against_fractions(self):
        for first in SMALL:
            one = Fraction(*first)
            self.assertEqual(-Ratio(*first), ratio_of(-one))
            for second in SMALL:
                other = Fraction(*second)
                self.assertEqual(Ratio(*first) + Ratio(*second), ratio_of(one + other))
                self.assertEqual(Ratio(*first) - Ratio(*second), ratio_of(one - other))
                self.assertEqual(Ratio(*first) * Ratio(*second), ratio_of(one * other))
                self.assertIs(Ratio(*first) == Ratio(*second), one == other)
                self.assertIs(Ratio(*first) != Ratio(*second), one != other)
                self.assertIs(Ratio(*first).is_less(Ratio(*second)), one < other)
                self.assertIs(Ratio(*first).is_less(other=Ratio(*second)), one < other)

    def test_outcomes_are_ratios_in_lowest_terms(self):
        half, sixth = Ratio(1, 2), Ratio(1, 6)
        for found, pair in [
            (half + sixth, (2, 3)), (half - sixth, (1, 3)), (sixth - half, (-1, 3)), (half + half, (1, 1)),
            (half - half, (0, 1)), (half * Ratio(2, 1), (1, 1)), (Ratio(0, 1) * half, (0, 1)), (-half, (-1, 2)),
            (-Ratio(0, 1), (0, 1)), (-(-half), (1, 2)),
        ]:
            self.assertIs(type(found), Ratio)
            self.assertEqual((found.top, found.bottom), pair)

    def test_equal_in_other_terms(self):
        self.assertTrue(Ratio(2, 4) == Ratio(-1, -2))
        self.assertFalse(Ratio(2, 4) != Ratio(-1, -2))
        self.assertFalse(Ratio(1, 2) == Ratio(1, 3))
        self.assertFalse(Ratio(1, 2) == Ratio(3, 2))
        self.assertTrue(Ratio(1, 2) != Ratio(-1, 2))
        self.assertTrue(Ratio(0, 3) == Ratio(0, -8))

    def test_nothing_else_is_equal(self):
        for ratio in (Ratio(0, 1), Ratio(1, 1), Ratio(1, 2)):
            for other in (0, 1, True, False, None, "1", "0", "1/2", (1, 2), (1, 1), [1, 2], {}, 0.5, Fraction(1, 2)):
                self.assertIs(ratio == other, False)
                self.assertIs(other == ratio, False)
                self.assertIs(ratio != other, True)
                self.assertIs(other != ratio, True)

    def test_inverse(self):
        for top, bottom, text in [(1, 1, "1"), (2, 1, "1/2"), (1, 2, "2"), (-2, 3, "-3/2"), (-1, 5, "-5"), (-7, 1, "-1/7")]:
            inverse = Ratio(top, bottom).inverse()
            self.assertIs(type(inverse), Ratio)
            self.assertEqual(str(inverse), text)
            self.assertGreater(inverse.bottom, 0)
            self.assertEqual(inverse * Ratio(top, bottom), Ratio(1, 1))
        with self.assertRaises(ZeroDenominator):
            Ratio(0, 9).inverse()

    def test_is_less_is_not_so_for_equal_ones(self):
        self.assertIs(Ratio(1, 2).is_less(Ratio(2, 4)), False)
        self.assertIs(Ratio(-1, 2).is_less(Ratio(-1, 3)), True)
        self.assertIs(Ratio(-1, 3).is_less(Ratio(-1, 2)), False)

    def test_nothing_changes_a_ratio(self):
        first, second = Ratio(-2, 3), Ratio(5, 4)
        total = first
        for _ in range(3):
            total += second
            total -= first
            total *= second
            -first, first == second, first != 0, str(first), first.inverse(), first.is_less(second)
        self.assertEqual([(first.top, first.bottom), (second.top, second.bottom)], [(-2, 3), (5, 4)])

    def test_long_sums(self):
        total, alternating, power = Ratio(0, 1), Ratio(0, 1), Ratio(1, 1)
        for k in range(1, 4001):
            total = total + Ratio(1, k * (k + 1))
            alternating = alternating - Ratio(1, 3) if k % 2 else alternating + Ratio(1, 3)
            power = power * Ratio(k + 1, k)
        self.assertEqual([str(total), str(alternating), str(power)], ["4000/4001", "0", "4001"])

    def test_long_sums_with_great_numbers(self):
        total, fraction = Ratio(0, 1), Fraction(0)
        for k in range(1, 3001):
            total = total + Ratio(1, k)
            fraction = fraction + Fraction(1, k)
        self.assertTrue((total.top, total.bottom) == (fraction.numerator, fraction.denominator))
        self.assertTrue(str(total) == str(fraction))


class Parse(unittest.TestCase):
    def assert_invalid(self, text):
        with self.assertRaises(InvalidText) as caught:
            Ratio.parse(text)
        self.assertEqual(caught.exception.row, 0)

    def test_every_str_is_read(self):
        for top in TOPS:
            for bottom in BOTTOMS:
                ratio = Ratio(top, bottom)
                found = Ratio.parse(str(ratio))
                self.assertIs(type(found), Ratio)
                self.assertTrue((found.top, found.bottom) == (ratio.top, ratio.bottom))

    def test_some_by_hand(self):
        for text, pair in [
            ("0", (0, 1)), ("1", (1, 1)), ("-1", (-1, 1)), ("12", (12, 1)), ("1/2", (1, 2)), ("-1/2", (-1, 2)),
            ("10/3", (10, 3)), ("-100/1001", (-100, 1001)),
        ]:
            ratio = Ratio.parse(text=text)
            self.assertEqual((ratio.top, ratio.bottom, str(ratio)), (*pair, text))

    def test_other_texts(self):
        for text in [
            "", "+1", "-0", "0/3", "-0/3", "2/4", "3/1", "1/0", "0/0", "-1/0", "1/-2", "-1/-2", "00", "01", "-01", "007",
            "1/02", "01/2", "1/00", " 1", "1 ", " ", "1 /2", "1/ 2", "- 1", "1/2 ", "1//2", "1/2/3", "/", "1/", "/2", "-/2",
            "-", "--1", "1-", "1-2", "x", "1x", "x/2", "1/x", "0x1", "1e3", "1.0", "1_0", "1,0", "\n", "1\n", "\n1", "1/2\n",
            "1/\n2", "\t1", "1\n2", "half", "+0", "-+1", "1/+2", "9/3", "-4/2", "0/1", "1/1", "-2/1", "\u0661", "\u00b2",
            "1/\u00b2", "\uff11",
        ]:
            with self.subTest(text=text):
                self.assert_invalid(text)

    def test_all_short_texts(self):
        signs = "0126/-+ "
        texts = [""]
        for _ in range(4):
            texts += [text + sign for text in texts for sign in signs if len(text + sign) <= 4]
        right = {str(Ratio(top, bottom)) for top in range(-999, 10000) for bottom in (1,)}
        right |= {str(Ratio(top, bottom)) for top in range(-99, 100) for bottom in range(1, 100)}
        for text in set(texts):
            if text in right:
                self.assertEqual(str(Ratio.parse(text)), text)
            else:
                self.assert_invalid(text)

    def test_numbers_of_hundreds_of_digits(self):
        long = "7" + "0" * 399 + "3"
        for text in [long, "-" + long, long + "/2", "2/" + long, "9" * 1000, "-1/" + "3" * 1000, "8" * 5000]:
            self.assertTrue(str(Ratio.parse(text)) == text)
        self.assertTrue(Ratio.parse("9" * 900).top == 10 ** 900 - 1)
        self.assertTrue(Ratio.parse("1/1" + "0" * 700).bottom == 10 ** 700)
        for text in ["0" + long, "+" + long, long + "/1", long + "/" + long, long + "x", "4" + long[1:-1] + "2/2",
                     long + "/" + "0" * 600, "0" * 600, "0/" + long, "-" + "0" * 601]:
            self.assert_invalid(text)


if __name__ == "__main__":
    unittest.main()
