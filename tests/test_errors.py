import unittest

from foldparts import errors
from foldparts.errors import PartError
from foldparts.ratios import Ratio

ATTRIBUTES = {
    "InvalidText": ["row"],
    "ZeroDenominator": [],
    "BadItem": ["index"],
    "OtherKinds": [],
    "WrongCount": ["count"],
    "BadPlaces": ["start", "end"],
    "Disputed": ["start", "end"],
    "Overlap": ["start", "end"],
    "UnknownPiece": ["start", "end"],
    "Missing": ["places"],
    "OrderMatters": ["example"],
    "Stuck": ["obstacle"],
    "TooLarge": ["size"],
    "UnknownKind": ["name"],
    "TooWide": ["width"],
    "UnknownMark": ["number"],
    "NoObjection": [],
    "NoFold": [],
}

VALUES = [0, -3, 10 ** 5000, True, None, "", "a\nb", (), (1, (2,)), [], [(0, 1), (3, 4)], {"a": [1]}, Ratio(1, 2)]


class Errors(unittest.TestCase):
    def classes(self):
        return [getattr(errors, name) for name in ATTRIBUTES]

    def test_base(self):
        self.assertEqual(PartError.__bases__, (ValueError,))

    def test_each_is_a_direct_subclass_of_the_base_only(self):
        for one in self.classes():
            self.assertEqual(one.__bases__, (PartError,), one)

    def test_none_is_a_subclass_of_another(self):
        for one in self.classes():
            for other in self.classes():
                self.assertEqual(issubclass(one, other), one is other)

    def test_no_other_subclasses(self):
        self.assertEqual(sorted(one.__name__ for one in PartError.__subclasses__()), sorted(ATTRIBUTES))

    def test_attributes_by_position_and_by_name(self):
        for name, attributes in ATTRIBUTES.items():
            one = getattr(errors, name)
            for at in range(len(VALUES)):
                values = [VALUES[at], VALUES[at - 1]][:len(attributes)]
                for error in (one(*values), one(**dict(zip(attributes, values)))):
                    self.assertEqual(vars(error), dict(zip(attributes, values)))

    def test_the_values_may_be_exchanged_by_name(self):
        for name in ("BadPlaces", "Disputed", "Overlap", "UnknownPiece"):
            error = getattr(errors, name)(end=1, start=2)
            self.assertEqual((error.start, error.end), (2, 1))

    def test_raised_and_caught_by_each_name(self):
        for name, attributes in ATTRIBUTES.items():
            one = getattr(errors, name)
            for caught in (one, PartError, ValueError):
                with self.assertRaises(caught):
                    raise one(*[7 for attribute in attributes])


if __name__ == "__main__":
    unittest.main()
