"""Points 2 and 3 over the whole program: arguments, told objects, and the two halves of the document in turns."""

import copy
import random
import unittest

from foldparts import alike, back, compared, formulas, order, relations, repeats, width
from foldparts.bag import Bag
from foldparts.board import Board
from foldparts.errors import BadPlaces, Missing, OrderMatters, PartError, Stuck, UnknownMark
from foldparts.folds import Fold
from foldparts.formulas import Formula
from foldparts.gauges import Gauge
from foldparts.learners import Learner
from foldparts.pieces import Scheme
from foldparts.ratios import Ratio
from foldparts.tables import RowTable
from reference import MEAN
from searches import AFFINE, DELAY, TURNS, any_item, any_row, random_fraction, ratio_of, small_sketch, texts
from twins import COUNT_B, MANY, STEPS

A, B = ("a", ()), ("b", ())
SALE = ("sale", (3,))


def calls():
    """Each function, class and method of the interface: what is called, and its arguments by name, in the order shown."""
    half, mean, turns, steps = Ratio(1, 2), Fold.parse(MEAN), Fold.parse(TURNS), Fold.parse(STEPS)
    formula, count = Formula(steps), Formula(Fold.parse(COUNT_B))
    scheme, affine = Scheme(mean), Scheme(Fold.parse(AFFINE))
    numbers = scheme.numbers([SALE])
    board, bag, table = Board(scheme, 5), Bag(scheme), RowTable([formula, count])
    board.put(0, 1, numbers)
    board.put(2, 4, numbers)
    gauge, other = Gauge(table), Gauge(table)
    gauge.push_row([A, B])
    gauge.mark()
    learner = Learner(Fold.parse(COUNT_B), steps, 2)
    item = ("x", (3,))
    return [
        (Ratio, {"top": 3, "bottom": -6}), (Ratio.parse, {"text": "-3/4"}), (half.inverse, {}), (half.is_less, {"other": Ratio(2, 3)}),
        (Fold.parse, {"text": MEAN}), (mean, {"row": [SALE, SALE]}), (mean.registers_after, {"row": [SALE]}), (mean.test_items, {}),
        (alike.difference, {"first": mean, "second": Fold.parse(MEAN.replace("1/2*", ""))}),
        (width.tails, {"fold": turns}), (width.heads, {"fold": turns}), (width.kept, {"fold": turns, "row": [item]}),
        (width.narrowest, {"fold": turns}), (order.order_example, {"fold": turns}),
        (order.is_order_example, {"fold": turns, "value": ([], item, ("x", (4,)), [])}),
        (Scheme, {"fold": turns}), (affine.numbers, {"row": [("put", (1, 2))]}),
        (affine.joined, {"first": (half, half), "second": (Ratio(3, 1), half)}), (affine.outcome, {"numbers": (half, half)}),
        (back.back_table, {"fold": mean, "item": SALE}), (back.obstacle, {"fold": Fold.parse(DELAY), "item": item}),
        (back.is_obstacle, {"fold": turns, "item": item, "value": [half, half, half]}),
        (Board, {"scheme": scheme, "places": 7}), (board.put, {"start": 4, "end": 5, "numbers": numbers}),
        (board.withdraw, {"start": 0, "end": 1}), (board.settle, {"start": 2, "items": [SALE, SALE]}), (board.gaps, {}),
        (board.numbers_of, {"start": 2, "end": 4}), (Bag, {"scheme": scheme}), (bag.put, {"numbers": numbers}),
        (bag.put_item, {"item": SALE}), (bag.take_out, {"item": SALE}), (bag.result, {}),
        (Formula, {"fold": turns}), (formula, {"row": [A, B]}), (formula.mirrored, {}), (formula.running, {}), (formula.summed, {}),
        (formula.ahead, {"front": [A]}), (formula.behind, {"back": [B]}), (formula.only, {"names": ["b", "a"]}),
        (formulas.item_weights, {"kinds": turns.kinds, "item": item}), (RowTable, {"formulas": [formula, count]}), (table.tail_pairs, {}),
        (table.head_rows, {}), (table.separators, {}), (table.kept, {"row": [A, B]}), (table.weights, {"row": [B]}),
        (compared.parting_row, {"first": formula, "second": count}), (compared.width_of, {"formula": formula}),
        (compared.narrowest_of, {"formula": formula}), (relations.relations, {"formulas": [formula, formula]}),
        (relations.witnesses, {"formulas": [formula, count]}), (relations.splitters, {"formulas": [formula, count]}),
        (repeats.recursion, {"formula": formula, "front": [A], "piece": [A, B], "back": [B]}), (Gauge, {"table": table}),
        (gauge.so_far, {}), (gauge.told, {}), (gauge.weights, {}), (gauge.push, {"item": A}), (gauge.push_row, {"row": [A, B]}),
        (gauge.told_after, {"row": [B]}), (gauge.mark, {}), (gauge.back, {"number": 0}), (gauge.fork, {}), (gauge.parted, {"other": other}),
        (Learner, {"teacher": Fold.parse(COUNT_B), "pattern": steps, "most": 2}), (learner.guess, {}), (learner.asked, {}),
        (learner.object, {"row": [B, B]}),
    ]


# Those of which no result is told.
NO_RESULT = ["put", "put_item", "take_out", "push", "push_row", "back", "object"]
# Those that tell something else when they are called again.
CHANGING = NO_RESULT + ["withdraw", "settle", "mark"]


def shown(value):
    """What can be seen of a value, also of objects that cannot be compared."""
    if isinstance(value, (list, tuple)):
        return type(value).__name__, [shown(part) for part in value]
    if isinstance(value, (Ratio, Fold)):
        return str(value)
    if isinstance(value, Formula):
        return value.name, value.kinds, value.size, str(value([A, B, B]) if value.kinds[0][0] == "a" else value([]))
    if isinstance(value, RowTable):
        return shown([value.formulas, value.tail_pairs(), value.head_rows(), value.separators()])
    if isinstance(value, Gauge):
        return shown([value.so_far(), value.told(), value.weights()])
    if isinstance(value, Scheme):
        return shown([value.fold, value.size, value.contexts, value.samples])
    if isinstance(value, Board):
        return shown([value.scheme, value.places, list(value.pieces()), value.gaps()])
    if isinstance(value, Bag):
        return shown([value.scheme, value.held])
    if isinstance(value, Learner):
        return shown([value.guess(), value.asked()])
    return value


def lists_in(value):
    """All lists and dicts that are within a value, also several times."""
    inside = [value] if isinstance(value, (list, dict)) else []
    if isinstance(value, (list, tuple)):
        for part in value:
            inside.extend(lists_in(part))
    return inside


class Arguments(unittest.TestCase):
    def test_by_position_by_name_and_in_another_order(self):
        for at in range(len(calls())):
            called, given = calls()[at]
            expected = shown(called(*given.values()))
            called, given = calls()[at]
            self.assertEqual(shown(called(**given)), expected)
            called, given = calls()[at]
            self.assertEqual(shown(called(**{name: given[name] for name in reversed(list(given))})), expected)

    def test_no_argument_is_changed(self):
        for called, given in calls():
            before = {name: shown(value) for name, value in given.items()}
            kept = {name: copy.copy(value) if isinstance(value, list) else value for name, value in given.items()}
            called(**given)
            self.assertEqual({name: shown(value) for name, value in given.items()}, before)
            for name, value in given.items():
                if isinstance(value, list):
                    self.assertEqual(len(value), len(kept[name]))
                    self.assertTrue(all(one is other for one, other in zip(value, kept[name])))

    def test_no_told_list_is_another_one(self):
        for at in range(len(calls())):
            called, given = calls()[at]
            if getattr(called, "__name__", "") in CHANGING:
                continue
            told = [called(**given), called(**given)]
            inside = [one for value in told + list(given.values()) for one in lists_in(value)]
            self.assertEqual(len({id(one) for one in inside}), len(inside), called)
            for value in told:
                for one in lists_in(value):
                    one.append(7)
            # The same is told again, as if nothing had been changed.
            other, arguments = calls()[at]
            self.assertEqual(shown(called(**given)), shown(other(**arguments)))

    def test_methods_of_which_no_result_is_told(self):
        seen = set()
        for called, given in calls():
            name = getattr(called, "__name__", "")
            if name in NO_RESULT and given:
                self.assertIsNone(called(**given))
                seen.add(name)
        self.assertEqual(seen, set(NO_RESULT))


class Copies(unittest.TestCase):
    def test_what_was_handed_in_may_be_changed(self):
        fold = Fold.parse(STEPS)
        formula, row = Formula(fold), [A, B]
        given = [formula, formula.running()]
        table, front, back_row, names = RowTable(given), [A], [B], ["a"]
        gauge, learner = Gauge(table), Learner(fold, fold, 3)
        made = [formula.ahead(front), formula.behind(back_row), formula.only(names)]
        gauge.push_row(row)
        learner.object([B, B])
        before = shown([made, table, gauge, learner])
        for one in (given, front, back_row, names, row):
            one.clear()
            one.append(7)
        self.assertEqual(shown([made, table, gauge, learner]), before)

    def test_what_errors_have_is_new(self):
        board = Board(Scheme(Fold.parse(MEAN)), 4)
        found = []
        for _ in range(2):
            with self.assertRaises(Missing) as error:
                board.result()
            found.append(error.exception.places)
        found[0].append(7)
        self.assertEqual(found[1], [(0, 4)])
        start = [1, [2]]
        for called in (lambda: board.put(start, 3, ()), lambda: board.numbers_of(start, 3)):
            with self.assertRaises(BadPlaces) as error:
                called()
            self.assertEqual((error.exception.start, error.exception.end), ([1, [2]], 3))
            error.exception.start[1].append(7)
            self.assertEqual(start, [1, [2]])
        with self.assertRaises(UnknownMark) as error:
            Gauge(RowTable([])).back(start)
        error.exception.number.clear()
        self.assertEqual(start, [1, [2]])
        for _ in range(2):
            with self.assertRaises(OrderMatters) as error:
                Bag(Scheme(Fold.parse(TURNS)))
            self.assertIs(order.is_order_example(Fold.parse(TURNS), error.exception.example), True)
            inside = lists_in(error.exception.example)
            self.assertEqual(len({id(one) for one in inside}), len(inside))
            for one in inside:
                one.append(7)
        bag = Bag(Scheme(Fold.parse("fold product\n  start p = 1\n  item x v\n    p = p*v\n  result p\nend")))
        for _ in range(2):
            with self.assertRaises(Stuck) as error:
                bag.take_out(("x", (0,)))
            self.assertIs(back.is_obstacle(bag.scheme.fold, ("x", (0,)), error.exception.obstacle), True)
            error.exception.obstacle.clear()


class InTurns(unittest.TestCase):
    def test_objects_of_both_halves(self):
        """What is asked of folds and formulas in any order is as if each was asked alone."""
        source = random.Random(1)
        for _ in range(6):
            text = small_sketch(source, 5, 2).text()
            fold = Fold.parse(text)
            row, more, item = any_row(source, fold, 4), any_row(source, fold, 4), any_item(source, fold)
            ways = [
                lambda one: one(row), lambda one: width.heads(one), lambda one: width.tails(one), lambda one: width.kept(one, row),
                lambda one: width.narrowest(one), lambda one: alike.difference(one, one), lambda one: back.back_table(one, item),
                lambda one: back.obstacle(one, item), lambda one: Scheme(one), lambda one: Formula(one)(row),
                lambda one: Formula(one).running().mirrored()(more), lambda one: RowTable([Formula(one), Formula(one).running()]),
                lambda one: compared.narrowest_of(Formula(one).mirrored()), lambda one: Gauge(RowTable([Formula(one)])).told_after(row),
                lambda one: relations.relations([Formula(one), Formula(one).mirrored()]), lambda one: Learner(one, one, 3).guess(),
                lambda one: repeats.recursion(Formula(one), row, more, row),
                lambda one: compared.parting_row(Formula(one), Formula(one) * Ratio(2, 1)),
            ]
            alone = [shown(way(Fold.parse(text))) for way in ways]
            for _ in range(3):
                order_of_calls = list(range(len(ways)))
                source.shuffle(order_of_calls)
                for at in order_of_calls:
                    self.assertEqual(shown(ways[at](fold)), alone[at])
            self.assertEqual(str(fold), text)

    def test_a_board_a_gauge_and_a_learner(self):
        source = random.Random(2)
        fold = Fold.parse(AFFINE)
        scheme, formula = Scheme(fold), Formula(fold)
        board, gauge = Board(scheme, 12), Gauge(RowTable([formula, formula.summed()]))
        learner = Learner(formula, fold, 1)
        row = [any_item(source, fold) for _ in range(12)]
        learner.object([("put", (1, 1)), ("put", (0, 2))])
        gauge.push_row(row[:5])
        board.put(5, 12, scheme.numbers(row[5:]))
        gauge.mark()
        gauge.push_row(row)
        board.put(0, 5, scheme.numbers(row[:5]))
        gauge.back(0)
        gauge.push_row(row[5:])
        self.assertEqual([str(board.result())] * 3, texts([gauge.told()[0], fold(row), learner.guess()(row)]))
        self.assertTrue(learner.guess() == width.narrowest(fold))

    def test_pieces_in_any_order_with_refused_repeated_and_withdrawn_ones(self):
        # Point 2: only the pieces that are accepted at the end decide.
        source = random.Random(3)
        for _ in range(10):
            fold = Fold.parse(small_sketch(source, 5).text())
            scheme = Scheme(fold)
            row = [any_item(source, fold, 9) for _ in range(9)]
            cuts = [0, *sorted(source.sample(range(1, 9), 3)), 9]
            pieces = list(zip(cuts, cuts[1:]))
            source.shuffle(pieces)
            board = Board(scheme, 9)
            for start, end in pieces:
                numbers = scheme.numbers(row[start:end])
                other = tuple(ratio_of(random_fraction(source)) for _ in numbers)
                board.put(start, end, other)
                board.withdraw(start, end)
                for _ in range(2):
                    board.put(start, end, numbers)
                for wrong in ((start, end, tuple(number + Ratio(1, 1) for number in numbers)), (0, 9, numbers), (start, start, numbers)):
                    try:
                        board.put(*wrong)
                    except PartError:
                        continue
                Formula(fold).running()(row)
            self.assertEqual(board.result(), Formula(fold)(row))
            self.assertEqual(board.result(), fold(row))

    def test_many_stays_as_it_is(self):
        # The state of one object is not that of another one, though both come from one text.
        first, second = [Formula(Fold.parse(MANY)) for _ in range(2)]
        table, other = RowTable([first]), RowTable([first])
        one, two = Gauge(table), Gauge(other)
        one.push_row([A] * 4)
        self.assertEqual([len(one), len(two), texts(two.told()), str(second([A]))], [4, 0, ["0"], "1"])


if __name__ == "__main__":
    unittest.main()
