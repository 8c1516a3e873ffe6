"""Polynomials in the fields of a kind, and their values for the test items."""

from foldparts.ratios import Ratio

# By the number of values: for each product of fields, in the order of a sum, twice its coefficient as a sum of
# the values, each one times an integer. The values are those for the test items, in order.
_DOUBLED = {
    1: ((2,),),
    3: ((2, 0, 0), (-3, 4, -1), (1, -2, 1)),
    6: (
        (2, 0, 0, 0, 0, 0),
        (-3, 0, 0, 4, 0, -1),
        (-3, 4, -1, 0, 0, 0),
        (1, 0, 0, -2, 0, 1),
        (2, -2, 0, -2, 2, 0),
        (1, -2, 1, 0, 0, 0),
    ),
}


def fitted(values):
    """Return the list of the coefficients of the polynomial, for the products of fields in the order of a sum."""
    coefficients = []
    for factors in _DOUBLED[len(values)]:
        total = Ratio(0, 1)
        for factor, value in zip(factors, values):
            total = total + Ratio(factor, 2) * value
        coefficients.append(total)
    return coefficients


def shares(values):
    """Return the list of the weights, integers, of the values for the test items in that for an item.

    values are those of the item's fields. Every polynomial of the form above has its value there by these weights.
    """
    if len(values) == 0:
        return [1]
    if len(values) == 1:
        only = values[0]
        return [(only - 1) * (only - 2) // 2, only * (2 - only), only * (only - 1) // 2]
    f, g = values
    rest = 2 - f - g
    return [rest * (rest - 1) // 2, g * rest, g * (g - 1) // 2, f * rest, f * g, f * (f - 1) // 2]
