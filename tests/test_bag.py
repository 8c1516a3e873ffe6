"""Points 2, 3, 19 and 21: bags."""

import copy
import random
import unittest

from foldparts.back import back_table, is_obstacle
from foldparts.bag import Bag
from foldparts.errors import BadItem, OrderMatters, PartError, Stuck, WrongCount
from foldparts.folds import Fold
from foldparts.order import is_order_example, order_example
from foldparts.pieces import Scheme
from foldparts.ratios import Ratio
from reference import FULL, MEAN, SMALL, random_sketch
from searches import (
    AFFINE, CONSTANT, DELAY, IDLE, LATE, MOMENT, PAIRS, PRODUCT, SWAP, TRIPLES, TURNS, VARIANCE, any_item, any_row, commuting_sketch,
    small_sketch, texts,
)
from test_order import DEEP, HALL, LOCKED, MAZE
from test_pieces import any_numbers
from test_width import no_items

CALM = [MEAN, SMALL, VARIANCE, PRODUCT, CONSTANT, IDLE, SWAP, TRIPLES]
# A product and a sum beside each other: an item with 0 can be put in, but not taken out.
BOTH = "\n".join([
    "fold both", "  start p = 1", "  start s = 0", "  item x v w", "    p = p*v", "    s = s + w", "  result p + 2*s", "end",
])


def bag_of(text):
    return Bag(Scheme(Fold.parse(text)))


class BagTest(unittest.TestCase):
    def assert_refused(self, bag, one, called, **attributes):
        before = bag.held, bag.result()
        for caught in (one, PartError, ValueError):
            with self.assertRaises(caught) as found:
                called()
            self.assertIs(type(found.exception), one)
            self.assertEqual(vars(found.exception), attributes)
        self.assertEqual((bag.held, bag.result()), before)

    def assert_stuck(self, bag, item):
        before = bag.held, bag.result()
        for caught in (Stuck, PartError):
            with self.assertRaises(caught) as found:
                bag.take_out(item)
        self.assertEqual((bag.held, bag.result()), before)
        self.assertIs(is_obstacle(bag.scheme.fold, item, found.exception.obstacle), True)
        first = list(found.exception.obstacle)
        found.exception.obstacle.clear()
        with self.assertRaises(Stuck) as found:
            bag.take_out(item)
        self.assertEqual(found.exception.obstacle, first)


class NewBags(BagTest):
    def test_at_first_the_empty_piece(self):
        for text in CALM + [BOTH]:
            scheme = Scheme(Fold.parse(text))
            for bag in (Bag(scheme), Bag(scheme=scheme)):
                self.assertIn("scheme", vars(bag))
                self.assertIs(bag.scheme, scheme)
                self.assertIs(type(bag.held), tuple)
                self.assertEqual(bag.held, scheme.numbers([]))
                self.assertEqual(bag.result(), scheme.fold([]))
        self.assertIs(type(vars(Bag)["held"]), property)

    def test_the_order_matters(self):
        source = random.Random(1)
        folds = [AFFINE, TURNS, DELAY, LATE, PAIRS, MOMENT, FULL, DEEP, HALL, LOCKED, MAZE]
        folds += [random_sketch(source).text() for _ in range(20)]
        for text in folds:
            scheme = Scheme(Fold.parse(text))
            if order_example(scheme.fold) is None:
                Bag(scheme)
                continue
            for caught in (OrderMatters, PartError, ValueError):
                with self.assertRaises(caught) as found:
                    Bag(scheme)
                example = found.exception.example
                self.assertIs(is_order_example(scheme.fold, example), True)
                self.assertLessEqual(max(len(example[0]), len(example[3])), 3)
                for item in [*example[0], example[1], example[2], *example[3]]:
                    self.assertIn(item, scheme.fold.test_items())
                example[0].append(7)
                example[3].append(8)
            self.assertIs(is_order_example(scheme.fold, order_example(scheme.fold)), True)


class Putting(BagTest):
    def test_items_and_pieces(self):
        source = random.Random(2)
        for text in CALM + [BOTH] + [commuting_sketch(source).text() for _ in range(15)]:
            bag = bag_of(text)
            fold = bag.scheme.fold
            row = any_row(source, fold, 6)
            more = any_row(source, fold, 6)
            for item in row:
                self.assertIsNone(bag.put_item(item))
            self.assertIsNone(bag.put(bag.scheme.numbers(more)))
            self.assertEqual(bag.held, bag.scheme.numbers(more[::-1] + row))
            self.assertEqual(bag.result(), fold(row + more))

    def test_by_name(self):
        bag = bag_of(MEAN)
        bag.put_item(item=("sale", (3,)))
        bag.put(numbers=bag.scheme.numbers([("sale", (4,))]))
        self.assertEqual(str(bag.result()), "13")
        bag.take_out(item=("sale", (3,)))
        self.assertEqual(texts(bag.held), ["15/2"])

    def test_wrong_counts(self):
        for text in CALM:
            bag = bag_of(text)
            size = bag.scheme.size
            wrong = [(Ratio(1, 1),) * (size + 1), (Ratio(0, 1),) * (size + 3)] + [()] * (size > 0)
            for numbers in wrong:
                self.assert_refused(bag, WrongCount, lambda: bag.put(numbers), count=size)

    def test_no_items(self):
        for text in (PRODUCT, "fold f\n  item x v\n  result 1/2\nend", TRIPLES):
            bag = bag_of(text)
            bag.put_item(("x", (5,)))
            for item in no_items():
                before = copy.deepcopy(item)
                self.assert_refused(bag, BadItem, lambda: bag.put_item(item), index=0)
                self.assert_refused(bag, BadItem, lambda: bag.take_out(item), index=0)
                self.assertEqual(item, before)


class TakingOut(BagTest):
    def test_by_hand(self):
        bag = bag_of(MEAN)
        self.assertIsNone(bag.take_out(("sale", (3,))))
        self.assertEqual(texts(bag.held), ["-11/2"])
        bag.put_item(("back", (4,)))
        bag.take_out(("back", (4,)))
        bag.put_item(("sale", (3,)))
        self.assertEqual(texts(bag.held), ["0"])
        bag = bag_of(PRODUCT)
        bag.take_out(("x", (7,)))
        bag.put_item(("x", (-3,)))
        self.assertEqual(str(bag.result()), "-3/7")
        bag.put_item(("x", (0,)))
        self.assertEqual(str(bag.result()), "0")
        self.assert_stuck(bag, ("x", (0,)))
        bag = bag_of(TRIPLES)
        for value in (2, 3, 5, 7):
            bag.put_item(("x", (value,)))
        bag.take_out(("x", (3,)))
        self.assertEqual(str(bag.result()), "70")
        bag.take_out(("x", (11,)))
        bag.put_item(("x", (3,)))
        bag.put_item(("x", (11,)))
        self.assertEqual(str(bag.result()), str(2 * 3 * 5 + 2 * 3 * 7 + 2 * 5 * 7 + 3 * 5 * 7))

    def test_stuck(self):
        for text, item in [
            (PRODUCT, ("x", (0,))), (BOTH, ("x", (0, 7))),
            ("fold f\n  start s = 1\n  item x v\n    s = s*v - 3*s\n  item y\n    s = 0\n  result s\nend", ("x", (3,))),
            ("fold f\n  start s = 1\n  item x v\n    s = s*v - 3*s\n  item y\n    s = 0\n  result s\nend", ("y", ())),
        ]:
            text = text.replace("s*v - 3*s", "-3*s + s*v")
            bag = bag_of(text)
            bag.put_item(bag.scheme.fold.test_items()[1])
            self.assert_stuck(bag, item)
            bag.put_item(item)
            self.assert_stuck(bag, item)

    def test_in_any_order_with_any_calls_between(self):
        source = random.Random(3)
        for text in CALM + [BOTH] + [commuting_sketch(source).text() for _ in range(30)]:
            bag = bag_of(text)
            fold = bag.scheme.fold
            bag.put(any_numbers(source, bag.scheme))
            items = [any_item(source, fold, source.choice([5, 1000])) for _ in range(4)]
            items = [item for item in items if back_table(fold, item) is not None]
            calls = [(called, item) for item in items for called in (bag.put_item, bag.take_out)]
            source.shuffle(calls)
            before = bag.held, bag.result()
            for called, item in calls:
                called(item)
                with self.assertRaises(BadItem):
                    bag.put_item(None)
                with self.assertRaises(WrongCount):
                    bag.put(bag.held + (Ratio(1, 1),))
            self.assertEqual((bag.held, bag.result()), before)

    def test_the_rest_of_a_row(self):
        source = random.Random(4)
        taken = 0
        for text in CALM + [BOTH] + [commuting_sketch(source).text() for _ in range(30)]:
            bag = bag_of(text)
            fold = bag.scheme.fold
            row = any_row(source, fold, 6, source.choice([3, 1000]))
            for item in row:
                bag.put_item(item)
            rest = list(row)
            for item in source.sample(row, len(row)):
                if back_table(fold, item) is None:
                    self.assert_stuck(bag, item)
                else:
                    bag.take_out(item)
                    rest.remove(item)
                    taken += 1
                self.assertEqual(bag.held, bag.scheme.numbers(rest))
                self.assertEqual(bag.result(), fold(rest))
        self.assertGreater(taken, 40)

    def test_random_folds_whose_order_does_not_matter(self):
        source = random.Random(5)
        found = 0
        for _ in range(150):
            fold = Fold.parse(small_sketch(source, 7).text())
            if order_example(fold) is None and Scheme(fold).size > 0:
                bag = Bag(Scheme(fold))
                item = any_item(source, fold, 20)
                bag.put_item(any_item(source, fold, 20))
                before = bag.held
                if back_table(fold, item) is None:
                    self.assert_stuck(bag, item)
                else:
                    bag.take_out(item)
                    bag.put_item(item)
                    found += 1
                self.assertEqual(bag.held, before)
        self.assertGreater(found, 5)


class NothingElseChanges(BagTest):
    def test_two_bags_and_their_scheme(self):
        scheme = Scheme(Fold.parse(TRIPLES))
        one, two = Bag(scheme), Bag(scheme)
        told = copy.deepcopy((scheme.contexts, scheme.samples))
        numbers = scheme.numbers([("x", (3,)), ("x", (4,))])
        before = texts(numbers)
        one.put(numbers)
        one.put_item(("x", (5,)))
        held = one.held
        self.assertEqual(two.held, scheme.numbers([]))
        one.take_out(("x", (4,)))
        self.assertEqual(held, scheme.numbers([("x", (3,)), ("x", (4,)), ("x", (5,))]))
        self.assertEqual(texts(numbers), before)
        self.assertEqual((scheme.contexts, scheme.samples), told)
        self.assertEqual(str(scheme.fold), TRIPLES)


if __name__ == "__main__":
    unittest.main()
