"""The polynomial in the fields of a kind that has given values for the test items."""

from foldparts.ratios import Ratio

# By the number of values: for each product of fields, in the order of a sum, twice its coefficient as a sum of
# the values, each one times an integer. The values are those for the test items, in order.
_DOUBLED = {
    1: ((2,),),
    3: ((2, 0, 0), (-3, 4, -1), (1, -2, 1)),
    6: (
        (2, 0, 0, 0, 0, 0),
        (-3, 0, 0, 4, 0, -1),
        (-3, 4, -1, 0, 0, 0),
        (1, 0, 0, -2, 0, 1),
        (2, -2, 0, -2, 2, 0),
        (1, -2, 1, 0, 0, 0),
    ),
}


def fitted(values):
    """Return the list of the coefficients of the polynomial, for the products of fields in the order of a sum."""
    coefficients = []
    for factors in _DOUBLED[len(values)]:
        total = Ratio(0, 1)
        for factor, value in zip(factors, values):
            total = total + Ratio(factor, 2) * value
        coefficients.append(total)
    return coefficients
