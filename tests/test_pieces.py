"""Points 3, 6, 16, 17 and 18: contexts and samples, the numbers of pieces, and how they are joined."""

import copy
import random
import unittest
from fractions import Fraction

from foldparts.errors import BadItem, PartError, WrongCount
from foldparts.folds import Fold
from foldparts.order import order_example
from foldparts.pieces import Scheme
from foldparts.ratios import Ratio
from foldparts.width import heads, tails
from reference import FULL, MEAN, SMALL, WORDS, random_fraction, random_sketch
from searches import (
    AFFINE, CONSTANT, DELAY, EXAMPLES, IDLE, LATE, MOMENT, PAIRS, PRODUCT, SOME, SWAP, TRIPLES, TURNS, VARIANCE, any_row, commuting_sketch,
    fold_and_results, items_of, ratio_of, rows_up_to, search_contexts, search_samples, sketch_of, small_sketch, texts,
)
from test_width import no_items

SIZES = [
    (MEAN, 1), (SMALL, 0), (AFFINE, 2), (TURNS, 2), (SWAP, 2), (DELAY, 6), (LATE, 5), (PRODUCT, 1), (VARIANCE, 1), (IDLE, 0),
    (SOME, 2), (CONSTANT, 0), (PAIRS, 4), (MOMENT, 4), (FULL, 9), (TRIPLES, 3),
]

GREAT = "\n".join([
    "fold great", "  start s = 9999999999/9999999998", "  start t = -1/9999999997", "  start u = 0", "  item x f",
    "    s = 1/9999999996*s*f - 9999999995*t + u*f + 9999999994/9999999993",
    "    t = 9999999991/9999999992*s - u*f*f + 1/9999999989*f", "    u = t + 9999999988/9999999987*f",
    "  result s - 1/9999999986*u", "end",
])


def any_numbers(source, scheme):
    """Numbers that need not be those of a piece."""
    return tuple(ratio_of(random_fraction(source) * source.choice([1, 1, 10 ** 6])) for _ in range(scheme.size))


def shares(scheme, numbers):
    """The weights of the sample pieces that add up to the numbers, and themselves to 1."""
    rows = [[1, *scheme.numbers(sample)] for sample in scheme.samples]
    table = [[fraction(row[at]) for row in rows] + [fraction(number)] for at, number in enumerate([1, *numbers])]
    for at in range(len(table)):
        chosen = next(k for k in range(at, len(table)) if table[k][at] != 0)
        table[at], table[chosen] = table[chosen], table[at]
        table[at] = [number / table[at][at] for number in table[at]]
        for k in range(len(table)):
            if k != at and table[k][at] != 0:
                table[k] = [number - table[k][at] * less for number, less in zip(table[k], table[at])]
    return [row[-1] for row in table]


def fraction(number):
    return Fraction(number) if isinstance(number, int) else Fraction(number.top, number.bottom)


class ContextsAndSamples(unittest.TestCase):
    def assert_searched(self, sketch, most_rows=400):
        fold, results = fold_and_results(sketch.text())
        scheme = Scheme(fold)
        longest = 0
        while len(items_of(sketch)) ** (longest + 1) <= most_rows and longest <= max(len(row) for row in scheme.samples):
            longest += 1
        pieces = rows_up_to(items_of(sketch), longest)
        found = search_contexts(results, heads(fold), tails(fold), pieces)
        # Rows of one length more would tell no more only if this length told no more.
        whole = longest > max(len(row) for row in scheme.samples)
        if whole:
            self.assertEqual(scheme.contexts, found)
        self.assertEqual([row for row in scheme.samples if len(row) <= longest], search_samples(results, scheme.contexts, longest))
        self.assertEqual((len(scheme.contexts), len(scheme.samples)), (scheme.size, scheme.size + 1))
        return whole

    def test_example_of_the_document(self):
        scheme = Scheme(Fold.parse(AFFINE))
        self.assertEqual([scheme.size, scheme.contexts], [2, [([], []), ([("put", (0, 1))], [])]])
        self.assertEqual(scheme.samples, [[], [("put", (0, 0))], [("put", (0, 1))]])

    def test_the_attributes(self):
        fold = Fold.parse(AFFINE)
        scheme = Scheme(fold=fold)
        self.assertLessEqual({"fold", "size"}, set(vars(scheme)))
        self.assertTrue(scheme.fold == fold)
        for name in ("contexts", "samples"):
            self.assertIs(type(vars(Scheme)[name]), property)

    def test_sizes(self):
        for text, size in SIZES:
            scheme = Scheme(Fold.parse(text))
            self.assertIs(type(scheme.size), int)
            self.assertEqual((scheme.size, len(scheme.contexts), len(scheme.samples)), (size, size, size + 1), text)

    def test_size_0(self):
        for text in (CONSTANT, SMALL, IDLE):
            scheme = Scheme(Fold.parse(text))
            self.assertEqual((scheme.size, scheme.contexts, scheme.samples), (0, [], [[]]))

    def test_examples_against_all_rows(self):
        for text in EXAMPLES + [MEAN, WORDS]:
            self.assert_searched(sketch_of(text))

    def test_random_folds_against_all_rows(self):
        source = random.Random(17)
        whole = 0
        for _ in range(60):
            whole += self.assert_searched(small_sketch(source, 4))
        self.assertGreater(whole, 45)

    def test_random_folds(self):
        source = random.Random(18)
        sizes = {}
        for _ in range(60):
            fold = Fold.parse(random_sketch(source).text())
            scheme = Scheme(fold)
            width = len(tails(fold))
            self.assertTrue(width <= scheme.size <= width * (width + 1))
            self.assertEqual((len(scheme.contexts), len(scheme.samples)), (scheme.size, scheme.size + 1))
            self.assertEqual(scheme.contexts[:1], [([], [])][:scheme.size])
            self.assertEqual(scheme.samples[0], [])
            pairs = [(head, tail) for head in heads(fold) for tail in tails(fold)]
            places = [pairs.index(context) for context in scheme.contexts]
            self.assertEqual(places, sorted(places))
            sizes[scheme.size] = sizes.get(scheme.size, 0) + 1
        self.assertGreater(len(sizes), 4)

    def test_new_each_time(self):
        scheme = Scheme(Fold.parse(DELAY))
        contexts, samples = scheme.contexts, scheme.samples
        before = copy.deepcopy((contexts, samples))
        lists = [contexts, samples] + [row for pair in contexts for row in pair] + samples
        self.assertEqual(len({id(one) for one in lists}), len(lists))
        for one in lists:
            self.assertIs(type(one), list)
            one.append(7)
        self.assertEqual((scheme.contexts, scheme.samples), before)
        row = [("x", (5,)), ("x", (7,))]
        self.assertEqual(scheme.numbers(row), Scheme(Fold.parse(DELAY)).numbers(row))
        self.assertEqual(heads(scheme.fold), heads(Fold.parse(DELAY)))


class Numbers(unittest.TestCase):
    def test_results_with_the_contexts_around(self):
        source = random.Random(19)
        folds = [Fold.parse(text) for text in EXAMPLES + [MEAN, FULL, WORDS, GREAT]]
        folds += [Fold.parse(random_sketch(source).text()) for _ in range(15)]
        for fold in folds:
            scheme = Scheme(fold)
            for row in [[], any_row(source, fold, 4), any_row(source, fold, 10)]:
                found = scheme.numbers(row=row)
                self.assertIs(type(found), tuple)
                self.assertEqual(found, tuple(fold(u + row + v) for u, v in scheme.contexts))
                for number in found:
                    self.assertIs(type(number), Ratio)

    def test_by_hand(self):
        scheme = Scheme(Fold.parse(AFFINE))
        self.assertEqual(texts(scheme.numbers([])), ["0", "1"])
        self.assertEqual(texts(scheme.numbers([("put", (3, 1000))])), ["1000", "1003"])
        self.assertEqual(texts(scheme.numbers([("put", (3, 1000)), ("put", (-1000, 7))])), ["-999993", "-1002993"])

    def test_a_row_that_is_made_longer(self):
        scheme = Scheme(Fold.parse(AFFINE))
        row = []
        for length in range(5):
            self.assertEqual(scheme.numbers(row), scheme.numbers(list(row)))
            row.append(("put", (length, 3)))
        row[0] = ("put", (9, 9))
        self.assertEqual(scheme.numbers(row), scheme.numbers(list(row)))

    def test_what_is_no_item(self):
        for text in (TURNS, "fold f\n  item x v\n  result 1/2\nend"):
            scheme = Scheme(Fold.parse(text))
            good = [("x", (1,)), ("x", (-1000,)), ("x", (0,))]
            for item in no_items():
                for at in range(4):
                    row = good[:at] + [item] + good[at:]
                    before = copy.deepcopy(row)
                    for caught in (BadItem, PartError):
                        with self.assertRaises(caught) as found:
                            scheme.numbers(row)
                        self.assertEqual(found.exception.index, at)
                    self.assertEqual(row, before)
            with self.assertRaises(BadItem) as found:
                scheme.numbers(good * 4 + [("x", (True,)), None])
            self.assertEqual(found.exception.index, 12)


class Joined(unittest.TestCase):
    def schemes(self, source, many):
        folds = [Fold.parse(text) for text in EXAMPLES + [MEAN, FULL]]
        folds += [Fold.parse(random_sketch(source).text()) for _ in range(many)]
        return [Scheme(fold) for fold in folds]

    def test_example_of_the_document(self):
        scheme = Scheme(Fold.parse("\n".join([
            "fold mean", "  start total = 0", "  start many = 0", "  item sale price", "    total = total + price",
            "    many = many + 1", "  result 2*total - 1/2*many", "end",
        ])))
        first = scheme.numbers([("sale", (3,))])
        second = scheme.numbers([("sale", (4,))])
        self.assertEqual([str(number) for number in scheme.joined(first, second)], ["13"])
        self.assertEqual(texts(scheme.joined(second=second, first=first)), ["13"])
        self.assertEqual(str(scheme.outcome(scheme.joined(first, second))), "13")

    def test_numbers_of_both_pieces_together(self):
        source = random.Random(20)
        for scheme in self.schemes(source, 25):
            fold = scheme.fold
            for _ in range(3):
                first, second = any_row(source, fold, 5), any_row(source, fold, 5)
                found = scheme.joined(scheme.numbers(first), scheme.numbers(second))
                self.assertIs(type(found), tuple)
                self.assertEqual(found, scheme.numbers(first + second))
                outcome = scheme.outcome(numbers=found)
                self.assertIs(type(outcome), Ratio)
                self.assertEqual(outcome, fold(first + second))

    def test_great_numbers(self):
        source = random.Random(21)
        scheme = Scheme(Fold.parse(GREAT))
        self.assertEqual(scheme.size, 12)
        first, second = any_row(source, scheme.fold, 5), any_row(source, scheme.fold, 5)
        found = scheme.joined(scheme.numbers(first), scheme.numbers(second))
        self.assertTrue(found == scheme.numbers(first + second))
        self.assertTrue(scheme.outcome(found) == scheme.fold(first + second))

    def test_numbers_of_no_piece(self):
        source = random.Random(22)
        for scheme in self.schemes(source, 6):
            samples = scheme.samples
            first, second = any_numbers(source, scheme), any_numbers(source, scheme)
            left, right = shares(scheme, first), shares(scheme, second)
            sums = [Fraction(0)] * scheme.size
            for one, share in zip(samples, left):
                for other, part in zip(samples, right):
                    if share * part != 0:
                        sums = [total + share * part * fraction(number)
                                for total, number in zip(sums, scheme.numbers(one + other))]
            self.assertEqual(scheme.joined(first, second), tuple(ratio_of(total) for total in sums))
            outcome = sum(share * fraction(scheme.fold(one)) for one, share in zip(samples, left))
            self.assertEqual(scheme.outcome(first), ratio_of(outcome))

    def test_associative_and_the_empty_piece(self):
        source = random.Random(23)
        for scheme in self.schemes(source, 15):
            empty = scheme.numbers([])
            one, two, three = [any_numbers(source, scheme) for _ in range(3)]
            self.assertEqual(scheme.joined(scheme.joined(one, two), three), scheme.joined(one, scheme.joined(two, three)))
            self.assertEqual(scheme.joined(one, empty), one)
            self.assertEqual(scheme.joined(empty, one), one)

    def test_order_does_not_matter(self):
        source = random.Random(24)
        texts_of_folds = [MEAN, VARIANCE, PRODUCT, CONSTANT, IDLE, SWAP, SMALL, TRIPLES]
        texts_of_folds += [small_sketch(source, 6).text() for _ in range(20)]
        texts_of_folds += [commuting_sketch(source).text() for _ in range(30)]
        found = []
        for text in texts_of_folds:
            fold = Fold.parse(text)
            if order_example(fold) is None:
                scheme = Scheme(fold)
                self.assertEqual(scheme.size, len(tails(fold)))
                one, two = any_numbers(source, scheme), any_numbers(source, scheme)
                self.assertEqual(scheme.joined(one, two), scheme.joined(two, one))
                found.append(scheme.size)
        self.assertTrue(found.count(1) > 5 and found.count(2) > 5 and found.count(3) > 0, found)

    def test_wrong_counts(self):
        source = random.Random(25)
        for text in (MEAN, TURNS, AFFINE, DELAY, CONSTANT):
            scheme = Scheme(Fold.parse(text))
            right = any_numbers(source, scheme)
            wrong = [right + (Ratio(0, 1),), right + right + (Ratio(1, 2),)]
            if scheme.size > 0:
                wrong += [(), right[1:], right[:-1]]
            for numbers in wrong:
                for called in (lambda: scheme.joined(numbers, right), lambda: scheme.joined(right, numbers),
                               lambda: scheme.joined(numbers, numbers), lambda: scheme.outcome(numbers)):
                    for caught in (WrongCount, PartError):
                        with self.assertRaises(caught) as found:
                            called()
                        self.assertEqual(found.exception.count, scheme.size)

    def test_no_numbers(self):
        scheme = Scheme(Fold.parse(CONSTANT))
        self.assertEqual(scheme.numbers([("x", (5,))]), ())
        self.assertEqual(scheme.joined((), ()), ())
        self.assertEqual(scheme.outcome(()), Ratio(-5, 3))


class NothingChanges(unittest.TestCase):
    def test_the_same_after_any_calls(self):
        source = random.Random(26)
        for text in (TURNS, DELAY, FULL, CONSTANT):
            fold = Fold.parse(text)
            scheme = Scheme(fold)
            row = any_row(source, fold, 4)
            first, second = scheme.numbers(row), any_numbers(source, scheme)

            def told():
                return (scheme.size, scheme.contexts, scheme.samples, scheme.numbers(row), scheme.joined(first, second),
                        scheme.outcome(second), str(scheme.fold), texts(fold.registers_after(row)))

            before = told()
            for _ in range(2):
                with self.assertRaises(BadItem):
                    scheme.numbers([None])
                with self.assertRaises(WrongCount):
                    scheme.joined(first + first + (Ratio(1, 1),), second)
                self.assertEqual(told(), before)
            other = Scheme(Fold.parse(text))
            self.assertEqual(other.joined(first, second), scheme.joined(first, second))


if __name__ == "__main__":
    unittest.main()
