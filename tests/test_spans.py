"""The elimination below all the rest, against one with fractions."""

import random
import unittest
from fractions import Fraction

from foldparts.fits import fitted
from foldparts.ratios import Ratio
from foldparts.spans import Span
from searches import TEST_VALUES, Basis, fraction_of, ratio_of


def random_vectors(source, length, many, most):
    """Vectors of which some are combinations of others."""
    vectors = []
    for _ in range(many):
        if vectors and source.randrange(2):
            one, other = source.choice(vectors), source.choice(vectors)
            factors = Fraction(source.randrange(-3, 4), source.randrange(1, 4)), Fraction(source.randrange(-3, 4))
            vectors.append([factors[0] * left + factors[1] * right for left, right in zip(one, other)])
        else:
            vectors.append([Fraction(source.randrange(-most, most + 1), source.randrange(1, most + 1)) * source.randrange(2)
                            for _ in range(length)])
    return vectors


class Spans(unittest.TestCase):
    def test_take_and_weights(self):
        source = random.Random(5)
        for most in (2, 10 ** 10):
            for length in (1, 2, 3, 5, 8):
                for _ in range(15):
                    span, basis, taken = Span(length), Basis(), []
                    for vector in random_vectors(source, length, length + 4, most):
                        given = [ratio_of(number) for number in vector]
                        self.assert_weights(span, taken, vector, given)
                        is_new = basis.add(vector)
                        self.assertIs(span.take(given), is_new)
                        if is_new:
                            taken.append(vector)
                        self.assert_weights(span, taken, vector, given)
                        self.assertIs(span.is_full(), len(taken) == length)

    def assert_weights(self, span, taken, vector, given):
        weights = span.weights(given)
        if weights is not None:
            self.assertEqual(len(weights), len(taken))
            sums = [sum(fraction_of(weight) * row[at] for weight, row in zip(weights, taken)) for at in range(len(vector))]
            self.assertEqual(sums, vector)
        else:
            basis = Basis()
            self.assertTrue(all(basis.add(row) for row in taken))
            self.assertTrue(basis.add(vector))

    def test_zero_is_no_new_vector(self):
        span = Span(2)
        self.assertIs(span.take([Ratio(0, 1), Ratio(0, 1)]), False)
        self.assertEqual(span.weights([Ratio(0, 1), Ratio(0, 1)]), [])
        self.assertIs(span.take([Ratio(0, 1), Ratio(-2, 3)]), True)
        self.assertEqual(span.weights([Ratio(0, 1), Ratio(1, 1)]), [Ratio(-3, 2)])
        self.assertIsNone(span.weights([Ratio(1, 1), Ratio(1, 1)]))

    def test_the_vector_does_not_change(self):
        span = Span(2)
        vector = [Ratio(1, 2), Ratio(1, 3)]
        span.take(vector)
        span.weights(vector)
        self.assertEqual(vector, [Ratio(1, 2), Ratio(1, 3)])


class Fits(unittest.TestCase):
    def test_the_polynomial_has_its_values(self):
        source = random.Random(8)
        for values in TEST_VALUES:
            coefficients = [Fraction(source.randrange(-9, 10), 7) for _ in values]
            found = fitted([ratio_of(polynomial(coefficients, place)) for place in values])
            self.assertEqual(found, [ratio_of(number) for number in coefficients])


def polynomial(coefficients, values):
    if len(values) == 0:
        products = [1]
    elif len(values) == 1:
        products = [1, values[0], values[0] ** 2]
    else:
        f, g = values
        products = [1, f, g, f * f, f * g, g * g]
    return sum(number * product for number, product in zip(coefficients, products))


if __name__ == "__main__":
    unittest.main()
