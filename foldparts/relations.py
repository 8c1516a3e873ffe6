"""Which sums of products of formulas are always 0, and rows that show that no others are.

The vector of a row is the list of 1 and then the values of the formulas, so a relation is a list of weights for its
places.
"""

from foldparts.forms import transposed, unit
from foldparts.frames import inverse_of
from foldparts.ratios import Ratio
from foldparts.spans import Span
from foldparts.tables import RowTable


def relations(formulas):
    """Return the list of the told relations, lists of Ratios. Raise OtherKinds() and TooLarge(size)."""
    columns = transposed([vector for row, vector in _witness_pairs(formulas)])
    span, places = _free_places(columns)
    found = []
    for place, column in enumerate(columns):
        if place not in places:
            relation = unit(len(columns), place)
            for other, weight in zip(places, span.weights(column)):
                relation[other] = -weight
            found.append(relation)
    return found


def witnesses(formulas):
    """Return the list of the witnesses. Raise OtherKinds() and TooLarge(size)."""
    return [row for row, vector in _witness_pairs(formulas)]


def splitters(formulas):
    """Return the list of the splitters of the witnesses, lists of Ratios. Raise OtherKinds() and TooLarge(size)."""
    vectors = [vector for row, vector in _witness_pairs(formulas)]
    span, places = _free_places(transposed(vectors))
    # At the places that are not leading, there are as many numbers as witnesses.
    inverse = inverse_of([[vector[place] for place in places] for vector in vectors])
    found = []
    for at in range(len(vectors)):
        splitter = [Ratio(0, 1)] * len(vectors[0])
        for place, weights in zip(places, inverse):
            splitter[place] = weights[at]
        found.append(splitter)
    return found


def _witness_pairs(formulas):
    """Return the list of the pairs (witness, its vector)."""
    table = RowTable(formulas)
    span = Span(len(formulas) + 1)
    found = []
    # The vector of any other row is a combination of those of the heads before it, as the kept numbers are.
    for row, state in zip(table.head_rows(), table.frame.states):
        vector = [Ratio(1, 1)] + table.told_in(state)
        if span.take(vector):
            found.append((row, vector))
    return found


def _free_places(columns):
    """Return the span of the columns that are no combination of those before them, and the list of their places.

    The other places are those at which relations lead.
    """
    span = Span(len(columns[0]))
    places = []
    for place, column in enumerate(columns):
        if span.take(column):
            places.append(place)
    return span, places
