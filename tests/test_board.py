"""Points 2, 3 and 20: boards."""

import copy
import random
import unittest

from foldparts.board import Board
from foldparts.errors import BadItem, BadPlaces, Disputed, Missing, Overlap, PartError, UnknownPiece, WrongCount
from foldparts.folds import Fold
from foldparts.pieces import Scheme
from foldparts.ratios import Ratio
from reference import FULL, MEAN
from searches import AFFINE, CONSTANT, DELAY, MOMENT, PAIRS, TRIPLES, TURNS, any_item, any_row, texts
from test_pieces import any_numbers
from test_width import no_items

GREAT = 10 ** 40
NO_INTEGERS = [None, True, False, "", "0", "1", (), (0,), [], [1], {}, {0: 1}]


def scheme_of(text):
    return Scheme(Fold.parse(text))


def no_integers():
    return NO_INTEGERS + [Ratio(0, 1), Ratio(1, 1)]


def numbered(scheme, many):
    """As many different numbers."""
    return [tuple(Ratio(at + 1, place + 2) for place in range(scheme.size)) for at in range(many)]


class BoardTest(unittest.TestCase):
    def assert_raised(self, one, called, **attributes):
        for caught in (one, PartError, ValueError):
            with self.assertRaises(caught) as found:
                called()
            self.assertEqual(vars(found.exception), attributes)
            self.assertIs(type(found.exception), one)

    def told(self, board):
        pieces = list(board.pieces())
        return board.places, pieces, [board.numbers_of(start, end) for start, end in pieces], board.gaps()

    def assert_refused(self, board, one, called, **attributes):
        before = self.told(board)
        self.assert_raised(one, called, **attributes)
        self.assertEqual(self.told(board), before)


class Examples(BoardTest):
    def test_example_of_the_document(self):
        scheme = scheme_of("\n".join([
            "fold mean", "  start total = 0", "  start many = 0", "  item sale price", "    total = total + price",
            "    many = many + 1", "  result 2*total - 1/2*many", "end",
        ]))
        board = Board(scheme, 3)
        self.assertIsNone(board.put(1, 3, scheme.numbers([("sale", (4,)), ("sale", (5,))])))
        gaps = board.gaps()
        self.assertIsNone(board.put(0, 1, scheme.numbers([("sale", (3,))])))
        self.assertEqual([gaps, list(board.pieces()), str(board.result())], [[(0, 1)], [(0, 1), (1, 3)], "45/2"])

    def test_the_attributes(self):
        scheme = scheme_of(AFFINE)
        for board in (Board(scheme, 7), Board(places=7, scheme=scheme)):
            self.assertLessEqual({"scheme", "places"}, set(vars(board)))
            self.assertIs(board.scheme, scheme)
            self.assertEqual(board.places, 7)
            self.assertEqual([list(board.pieces()), board.gaps()], [[], [(0, 7)]])

    def test_no_places(self):
        for text in (AFFINE, MEAN, CONSTANT):
            scheme = scheme_of(text)
            board = Board(scheme, 0)
            self.assertEqual([list(board.pieces()), board.gaps()], [[], []])
            self.assertEqual(board.result(), scheme.fold([]))
            self.assertEqual(board.numbers_of(0, 0), scheme.numbers([]))
            self.assert_raised(BadPlaces, lambda: board.put(0, 0, scheme.numbers([])), start=0, end=0)
            self.assert_raised(BadPlaces, lambda: board.put(0, 1, scheme.numbers([])), start=0, end=1)
            self.assert_raised(BadPlaces, lambda: board.numbers_of(0, 1), start=0, end=1)
            self.assert_raised(UnknownPiece, lambda: board.withdraw(0, 0), start=0, end=0)

    def test_very_many_places(self):
        scheme = scheme_of(AFFINE)
        board = Board(scheme, GREAT)
        one, two, three = numbered(scheme, 3)
        board.put(GREAT // 2, GREAT, three)
        board.put(5, GREAT // 3, two)
        self.assertEqual(board.gaps(), [(0, 5), (GREAT // 3, GREAT // 2)])
        self.assert_raised(Missing, board.result, places=[(0, 5), (GREAT // 3, GREAT // 2)])
        self.assert_raised(Overlap, lambda: board.put(0, GREAT, one), start=5, end=GREAT // 3)
        self.assertEqual(board.numbers_of(5, GREAT // 3), two)
        board.put(GREAT // 3, GREAT // 2, one)
        board.put(0, 5, scheme.numbers([("put", (1, 1))] * 5))
        joined = scheme.joined(scheme.joined(scheme.joined(scheme.numbers([("put", (1, 1))] * 5), two), one), three)
        self.assertEqual(board.numbers_of(0, GREAT), joined)
        self.assertEqual(board.result(), scheme.outcome(joined))
        self.assertEqual(board.withdraw(GREAT // 3, GREAT // 2), one)
        self.assertEqual(board.gaps(), [(GREAT // 3, GREAT // 2)])


class Put(BoardTest):
    def test_bad_places(self):
        scheme = scheme_of(AFFINE)
        one, two = numbered(scheme, 2)
        for places in (4, GREAT):
            board = Board(scheme, places)
            board.put(1, 3, one)
            cases = [(-1, 2), (0, 0), (2, 2), (3, 1), (places, places), (places - 1, places + 1), (places, places + 1), (-2, -1),
                     (0, -1), (0, places + 10 ** 50), (-10 ** 50, 1)]
            for value in no_integers():
                cases += [(value, 2), (0, value), (value, value), (-1, value)]
            for start, end in cases:
                for numbers in (one, two, (), one + one):
                    self.assert_refused(board, BadPlaces, lambda: board.put(start, end, numbers), start=start, end=end)

    def test_wrong_counts(self):
        scheme = scheme_of(AFFINE)
        one, two = numbered(scheme, 2)
        board = Board(scheme, 9)
        board.put(2, 4, one)
        for start, end in ((0, 2), (2, 4), (3, 5), (0, 9)):
            for numbers in ((), one[:1], one + one, one + (Ratio(0, 1),)):
                self.assert_refused(board, WrongCount, lambda: board.put(start, end, numbers), count=2)
        board = Board(scheme_of(CONSTANT), 9)
        self.assert_refused(board, WrongCount, lambda: board.put(0, 9, one), count=0)
        board.put(0, 9, ())
        self.assertEqual(board.result(), Ratio(-5, 3))

    def test_the_same_places(self):
        scheme = scheme_of(AFFINE)
        one, two = numbered(scheme, 2)
        board = Board(scheme, 9)
        board.put(2, 4, one)
        before = self.told(board)
        self.assertIsNone(board.put(2, 4, one))
        self.assertIsNone(board.put(end=4, numbers=tuple(Ratio(number.top, number.bottom) for number in one), start=2))
        self.assertEqual(self.told(board), before)
        for numbers in (two, one[::-1], (one[0], two[1])):
            self.assert_refused(board, Disputed, lambda: board.put(2, 4, numbers), start=2, end=4)

    def test_overlaps(self):
        scheme = scheme_of(AFFINE)
        one, two, three, four = numbered(scheme, 4)
        board = Board(scheme, 20)
        for start, end, numbers in ((12, 15, three), (3, 6, one), (6, 9, two)):
            board.put(start, end, numbers)
        pieces = [(3, 6), (6, 9), (12, 15)]
        for start in range(20):
            for end in range(start + 1, 21):
                common = [piece for piece in pieces if max(start, piece[0]) < min(end, piece[1])]
                if (start, end) in pieces:
                    self.assert_refused(board, Disputed, lambda: board.put(start, end, four), start=start, end=end)
                elif common:
                    for numbers in (one, four):
                        self.assert_refused(
                            board, Overlap, lambda: board.put(start, end, numbers), start=common[0][0], end=common[0][1])
                else:
                    board.put(start, end, four)
                    self.assertEqual(list(board.pieces()), sorted(pieces + [(start, end)]))
                    self.assertEqual(board.withdraw(start, end), four)

    def test_the_errors_in_their_order(self):
        scheme = scheme_of(AFFINE)
        one, two = numbered(scheme, 2)
        board = Board(scheme, 9)
        board.put(2, 4, one)
        self.assert_refused(board, BadPlaces, lambda: board.put(4, 2, ()), start=4, end=2)
        self.assert_refused(board, BadPlaces, lambda: board.put(2, True, two), start=2, end=True)
        self.assert_refused(board, WrongCount, lambda: board.put(2, 4, two + two), count=2)
        self.assert_refused(board, WrongCount, lambda: board.put(1, 4, two + two), count=2)
        self.assert_refused(board, Disputed, lambda: board.put(2, 4, two), start=2, end=4)
        self.assert_refused(board, Overlap, lambda: board.put(2, 3, two), start=2, end=4)


class Withdraw(BoardTest):
    def test_the_numbers(self):
        scheme = scheme_of(AFFINE)
        one, two, three = numbered(scheme, 3)
        board = Board(scheme, 9)
        for start, end, numbers in ((5, 9, three), (0, 2, one), (2, 5, two)):
            board.put(start, end, numbers)
        self.assertEqual(board.withdraw(2, 5), two)
        self.assertIs(type(board.withdraw(start=0, end=2)), tuple)
        self.assertEqual([list(board.pieces()), board.gaps()], [[(5, 9)], [(0, 5)]])
        board.put(2, 5, one)
        self.assertEqual(board.withdraw(end=5, start=2), one)

    def test_unknown_pieces(self):
        scheme = scheme_of(AFFINE)
        one, two = numbered(scheme, 2)
        board = Board(scheme, 9)
        board.put(2, 5, one)
        board.put(5, 6, two)
        for start, end in ((0, 2), (2, 4), (2, 6), (3, 5), (5, 5), (5, 2), (0, 9), (-1, 3), (9, 9), (20, 30), (6, 9)):
            self.assert_refused(board, UnknownPiece, lambda: board.withdraw(start, end), start=start, end=end)
        board.withdraw(2, 5)
        self.assert_refused(board, UnknownPiece, lambda: board.withdraw(2, 5), start=2, end=5)


class Settle(BoardTest):
    def test_true_and_false(self):
        scheme = scheme_of(AFFINE)
        one, two = numbered(scheme, 2)
        board = Board(scheme, 9)
        board.put(2, 4, one)
        board.put(4, 5, two)
        items = [("put", (3, 5)), ("put", (-1000, 1000))]
        self.assertIs(board.settle(2, items), True)
        self.assertEqual(board.numbers_of(2, 4), scheme.numbers(items))
        self.assertIs(board.settle(items=items, start=2), False)
        self.assertIs(board.settle(2, items[::-1]), True)
        self.assertEqual([board.numbers_of(2, 4), board.numbers_of(4, 5)], [scheme.numbers(items[::-1]), two])
        self.assertEqual([list(board.pieces()), board.gaps()], [[(2, 4), (4, 5)], [(0, 2), (5, 9)]])
        board.put(2, 4, scheme.numbers(items[::-1]))
        self.assert_refused(board, Disputed, lambda: board.put(2, 4, one), start=2, end=4)

    def test_other_items_with_the_same_numbers(self):
        scheme = scheme_of(MEAN)
        board = Board(scheme, 2)
        board.put(0, 2, scheme.numbers([("sale", (3,)), ("sale", (4,))]))
        self.assertIs(board.settle(0, [("sale", (5,)), ("sale", (2,))]), False)
        self.assertIs(board.settle(0, [("sale", (5,)), ("back", (2,))]), True)

    def test_errors(self):
        scheme = scheme_of(TURNS)
        one, two = numbered(scheme, 2)
        board = Board(scheme, 9)
        board.put(2, 4, one)
        good = ("x", (1,))
        for start, items in ((0, [good]), (2, [good]), (2, [good] * 3), (3, [good]), (1, [good] * 3), (2, []), (4, []), (-1, [good]),
                             (20, [good] * 2), (9, [])):
            self.assert_refused(board, UnknownPiece, lambda: board.settle(start, items), start=start, end=start + len(items))
        for item in no_items():
            for start in (2, 5, 30):
                self.assert_refused(board, BadItem, lambda: board.settle(start, [good, item]), index=1)
                self.assert_refused(board, BadItem, lambda: board.settle(start, [item, None]), index=0)
        items = [good, ("x", (7,))]
        before = list(items)
        self.assertIs(board.settle(2, items), True)
        self.assertEqual(items, before)
        items[0] = ("x", (9,))
        self.assertEqual(board.numbers_of(2, 4), scheme.numbers(before))


class PiecesAndGaps(BoardTest):
    def test_a_generator(self):
        scheme = scheme_of(AFFINE)
        board = Board(scheme, 9)
        found = board.pieces()
        self.assertIs(iter(found), found)
        self.assertEqual(list(found), [])
        self.assertEqual(type(found).__name__, "generator")

    def test_as_at_its_first_step(self):
        scheme = scheme_of(AFFINE)
        one, two, three = numbered(scheme, 3)
        board = Board(scheme, 9)
        found = board.pieces()
        board.put(4, 6, two)
        board.put(0, 2, one)
        board.put(7, 9, three)
        self.assertEqual(next(found), (0, 2))
        other = board.pieces()
        board.withdraw(4, 6)
        board.put(3, 4, two)
        board.withdraw(0, 2)
        self.assertEqual(list(found), [(4, 6), (7, 9)])
        self.assertEqual(list(other), [(3, 4), (7, 9)])
        for piece in board.pieces():
            board.withdraw(*piece)
        self.assertEqual([list(board.pieces()), board.gaps()], [[], [(0, 9)]])
        last = board.pieces()
        board.put(1, 2, one)
        self.assertEqual(next(last), (1, 2))
        board.put(2, 3, two)
        self.assertEqual(list(last), [])
        board.put(3, 4, two)
        self.assertEqual(list(last), [])

    def test_gaps(self):
        scheme = scheme_of(AFFINE)
        one, two = numbered(scheme, 2)
        for pieces, gaps in [
            ([], [(0, 9)]), ([(0, 9)], []), ([(0, 1)], [(1, 9)]), ([(8, 9)], [(0, 8)]), ([(3, 4)], [(0, 3), (4, 9)]),
            ([(3, 4), (4, 7)], [(0, 3), (7, 9)]), ([(0, 2), (3, 5), (6, 9)], [(2, 3), (5, 6)]), ([(0, 4), (4, 9)], []),
            ([(1, 2), (2, 3), (5, 6), (6, 8)], [(0, 1), (3, 5), (8, 9)]),
        ]:
            for order in (pieces, pieces[::-1]):
                board = Board(scheme, 9)
                for start, end in order:
                    board.put(start, end, one)
                self.assertEqual(list(board.pieces()), pieces)
                self.assertEqual(board.gaps(), gaps)
                if gaps:
                    self.assert_refused(board, Missing, board.result, places=gaps)
                else:
                    board.result()

    def test_new_each_time(self):
        board = Board(scheme_of(AFFINE), 9)
        board.put(3, 4, numbered(board.scheme, 1)[0])
        found = board.gaps()
        found.append(7)
        found[0] = None
        self.assertEqual(board.gaps(), [(0, 3), (4, 9)])
        for called in (board.result, lambda: board.numbers_of(0, 9)):
            with self.assertRaises(Missing) as raised:
                called()
            raised.exception.places.clear()
            with self.assertRaises(Missing) as raised:
                called()
            self.assertEqual(raised.exception.places, [(0, 3), (4, 9)])


class NumbersOf(BoardTest):
    def board(self):
        scheme = scheme_of(AFFINE)
        board = Board(scheme, 20)
        for (start, end), numbers in zip(((9, 12), (12, 15), (3, 6), (6, 7)), numbered(scheme, 4)):
            board.put(start, end, numbers)
        return board

    def test_joined(self):
        board = self.board()
        one, two, three, four = numbered(board.scheme, 4)
        self.assertEqual(board.numbers_of(9, 15), board.scheme.joined(one, two))
        self.assertEqual(board.numbers_of(end=7, start=3), board.scheme.joined(three, four))
        self.assertEqual(board.numbers_of(6, 7), four)

    def test_all_places(self):
        board = self.board()
        pieces = list(board.pieces())
        covered = {place for start, end in pieces for place in range(start, end)}
        for start in range(21):
            for end in range(start, 21):
                gaps = [place for place in range(start, end) if place not in covered]
                partly = [(first, last) for first, last in pieces if max(start, first) < min(end, last)
                          and (first < start or last > end)]
                if gaps:
                    stretches = [(one, one) for one in gaps if one - 1 not in gaps]
                    ends = [one + 1 for one in gaps if one + 1 not in gaps]
                    places = [(first[0], last) for first, last in zip(stretches, ends)]
                    self.assert_refused(board, Missing, lambda: board.numbers_of(start, end), places=places)
                elif partly:
                    self.assert_refused(
                        board, Overlap, lambda: board.numbers_of(start, end), start=partly[0][0], end=partly[0][1])
                else:
                    numbers = board.scheme.numbers([])
                    for first, last in pieces:
                        if start <= first and last <= end:
                            numbers = board.scheme.joined(numbers, board.numbers_of(first, last))
                    self.assertEqual(board.numbers_of(start, end), numbers)

    def test_start_is_end(self):
        for text in (AFFINE, FULL, CONSTANT):
            scheme = scheme_of(text)
            board = Board(scheme, 9)
            board.put(3, 6, any_numbers(random.Random(1), scheme))
            for place in range(10):
                self.assertEqual(board.numbers_of(place, place), scheme.numbers([]))

    def test_bad_places(self):
        board = self.board()
        cases = [(-1, 2), (3, 1), (20, 21), (21, 21), (-1, -1), (0, 10 ** 40), (7, 6)]
        for value in no_integers():
            cases += [(value, 2), (0, value), (value, value)]
        for start, end in cases:
            self.assert_refused(board, BadPlaces, lambda: board.numbers_of(start, end), start=start, end=end)


class Result(BoardTest):
    def test_the_result_for_the_row(self):
        source = random.Random(20)
        for text in (AFFINE, TURNS, DELAY, PAIRS, MOMENT, TRIPLES, FULL, MEAN, CONSTANT):
            scheme = scheme_of(text)
            fold = scheme.fold
            for _ in range(4):
                row = [any_item(source, fold, 30) for _ in range(source.randrange(1, 13))]
                cuts = sorted(source.sample(range(1, len(row)), source.randrange(len(row)))) if len(row) > 1 else []
                pieces = list(zip([0, *cuts], [*cuts, len(row)]))
                source.shuffle(pieces)
                board = Board(scheme, len(row))
                for start, end in pieces:
                    self.disturb(source, board)
                    board.put(start, end, scheme.numbers(row[start:end]))
                self.assertEqual(board.result(), fold(row))
                self.assertEqual(board.numbers_of(0, len(row)), scheme.numbers(row))
                self.assertEqual(list(board.pieces()), sorted(pieces))

    def disturb(self, source, board):
        """Calls that change nothing in the end: refused, repeated, and withdrawn pieces."""
        scheme = board.scheme
        pieces = list(board.pieces())
        wrong = any_numbers(source, scheme)
        for start, end in pieces:
            board.put(start, end, board.numbers_of(start, end))
            numbers = board.withdraw(start, end)
            board.put(start, end, wrong)
            board.withdraw(start, end)
            board.put(start, end, numbers)
            with self.assertRaises(WrongCount):
                board.put(start, end, numbers + (Ratio(1, 1),))
        for start, end in board.gaps()[:1]:
            board.put(start, end, wrong)
            self.assertEqual(board.withdraw(start, end), wrong)
            if pieces:
                with self.assertRaises(Missing):
                    board.result()
                with self.assertRaises(Overlap):
                    board.put(0, board.places, wrong)

    def test_settled_pieces(self):
        source = random.Random(21)
        for text in (AFFINE, DELAY, FULL):
            scheme = scheme_of(text)
            row = [any_item(source, scheme.fold, 30) for _ in range(9)]
            board = Board(scheme, 9)
            for start, end in ((4, 9), (0, 1), (1, 4)):
                board.put(start, end, any_numbers(source, scheme))
                board.settle(start, row[start:end])
            self.assertEqual(board.result(), scheme.fold(row))

    def test_only_the_accepted_pieces_count(self):
        source = random.Random(22)
        for text in (AFFINE, TURNS, PAIRS):
            scheme = scheme_of(text)
            told = []
            pieces = [(start, start + 2, any_numbers(source, scheme)) for start in range(0, 12, 2)]
            for _ in range(6):
                board = Board(scheme, 12)
                source.shuffle(pieces)
                for start, end, numbers in pieces:
                    board.put(start, end, numbers)
                    self.disturb(source, board)
                told.append((board.result(), board.numbers_of(2, 8)))
            self.assertTrue(all(one == told[0] for one in told))

    def test_against_a_plain_board(self):
        source = random.Random(23)
        scheme = scheme_of(PAIRS)
        for _ in range(15):
            places = source.randrange(1, 12)
            board, plain = Board(scheme, places), {}
            for _ in range(60):
                start, end = source.randrange(-1, places + 1), source.randrange(places + 2)
                numbers = source.choice(numbered(scheme, 2))
                self.one_call(source, board, plain, start, end, numbers)
                self.assertEqual(list(board.pieces()), sorted(plain))
                self.assertEqual([board.numbers_of(*piece) for piece in sorted(plain)], [plain[piece] for piece in sorted(plain)])

    def one_call(self, source, board, plain, start, end, numbers):
        common = [piece for piece in sorted(plain) if max(piece[0], start) < min(piece[1], end)]
        if plain and source.randrange(3) == 0:
            piece = source.choice(sorted(plain))
            self.assertEqual(board.withdraw(*piece), plain.pop(piece))
        elif not 0 <= start < end <= board.places:
            self.assert_raised(BadPlaces, lambda: board.put(start, end, numbers), start=start, end=end)
        elif (start, end) in plain and plain[(start, end)] != numbers:
            self.assert_raised(Disputed, lambda: board.put(start, end, numbers), start=start, end=end)
        elif common and (start, end) not in plain:
            self.assert_raised(Overlap, lambda: board.put(start, end, numbers), start=common[0][0], end=common[0][1])
        else:
            board.put(start, end, numbers)
            plain[(start, end)] = numbers

    def test_many_pieces(self):
        scheme = scheme_of(MEAN)
        board = Board(scheme, 3 * GREAT)
        numbers = scheme.numbers([("sale", (1,))])
        order = list(range(1500))
        random.Random(24).shuffle(order)
        for at in order:
            board.put(at * GREAT // 500, (at + 1) * GREAT // 500, numbers)
        self.assertEqual(board.gaps(), [])
        self.assertEqual(board.result(), Ratio(2250, 1))


class NothingChanges(BoardTest):
    def test_arguments(self):
        scheme = scheme_of(TURNS)
        board = Board(scheme, 9)
        numbers = scheme.numbers([("x", (4,))])
        before = texts(numbers)
        board.put(0, 1, numbers)
        board.settle(0, [("x", (5,))])
        board.numbers_of(0, 1)
        self.assertEqual(texts(numbers), before)
        self.assertEqual([str(scheme.fold), scheme.size], [TURNS, 2])

    def test_two_boards_of_one_scheme(self):
        scheme = scheme_of(AFFINE)
        one, two = Board(scheme, 3), Board(scheme, 3)
        told = copy.deepcopy((scheme.contexts, scheme.samples))
        row = any_row(random.Random(2), scheme.fold, 3)
        numbers = scheme.numbers(row)
        one.put(0, 3, numbers)
        self.assertEqual([list(two.pieces()), two.gaps()], [[], [(0, 3)]])
        two.put(1, 2, numbers)
        self.assertEqual([list(one.pieces()), one.gaps()], [[(0, 3)], []])
        self.assertEqual((scheme.contexts, scheme.samples), told)
        self.assertEqual(scheme.numbers(row), numbers)


if __name__ == "__main__":
    unittest.main()
