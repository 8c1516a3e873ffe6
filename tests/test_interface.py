"""The form of the program: where the interface stands, and some rules of the code that are easy to break."""

import ast
import unittest
from inspect import signature
from pathlib import Path

from foldparts import (
    alike, back, bag, board, compared, errors, folds, formulas, gauges, learners, order, pieces, ratios, relations, repeats, tables, width,
)

PACKAGE = Path(__file__).resolve().parent.parent / "foldparts"

ERRORS = [
    "InvalidText", "ZeroDenominator", "BadItem", "OtherKinds", "WrongCount", "BadPlaces", "Disputed", "Overlap", "UnknownPiece",
    "Missing", "OrderMatters", "Stuck", "TooLarge", "UnknownKind", "TooWide", "UnknownMark", "NoObjection", "NoFold",
]

METHODS = [
    (ratios.Ratio, ["__init__", "__add__", "__sub__", "__mul__", "__neg__", "__eq__", "__ne__", "__str__", "parse", "inverse",
                    "is_less"]),
    (folds.Fold, ["__call__", "__eq__", "__ne__", "__str__", "parse", "registers_after", "test_items"]),
    (pieces.Scheme, ["__init__", "contexts", "samples", "numbers", "joined", "outcome"]),
    (board.Board, ["__init__", "put", "withdraw", "settle", "pieces", "gaps", "numbers_of", "result"]),
    (bag.Bag, ["__init__", "put", "put_item", "take_out", "held", "result"]),
    (formulas.Formula, ["__init__", "__call__", "__add__", "__sub__", "__neg__", "__mul__", "mirrored", "running", "summed", "ahead",
                        "behind", "only"]),
    (tables.RowTable, ["__init__", "tail_pairs", "head_rows", "separators", "kept", "weights"]),
    (gauges.Gauge, ["__init__", "__len__", "so_far", "told", "weights", "push", "push_row", "told_after", "mark", "back", "fork", "parted"]),
    (learners.Learner, ["__init__", "guess", "asked", "object"]),
]

CLASSES = {"foldparts.ratios": ratios.Ratio, "foldparts.folds": folds.Fold, "foldparts.pieces": pieces.Scheme,
           "foldparts.board": board.Board, "foldparts.bag": bag.Bag, "foldparts.formulas": formulas.Formula,
           "foldparts.tables": tables.RowTable, "foldparts.gauges": gauges.Gauge, "foldparts.learners": learners.Learner}

ARGUMENTS = [
    (pieces.Scheme, ["fold"]), (pieces.Scheme.numbers, ["self", "row"]), (pieces.Scheme.joined, ["self", "first", "second"]),
    (pieces.Scheme.outcome, ["self", "numbers"]), (board.Board, ["scheme", "places"]),
    (board.Board.put, ["self", "start", "end", "numbers"]), (board.Board.withdraw, ["self", "start", "end"]),
    (board.Board.settle, ["self", "start", "items"]), (board.Board.numbers_of, ["self", "start", "end"]), (bag.Bag, ["scheme"]),
    (bag.Bag.put, ["self", "numbers"]), (bag.Bag.put_item, ["self", "item"]), (bag.Bag.take_out, ["self", "item"]),
    (formulas.Formula, ["fold"]), (formulas.Formula.__call__, ["self", "row"]), (formulas.Formula.mirrored, ["self"]),
    (formulas.Formula.running, ["self"]), (formulas.Formula.summed, ["self"]), (formulas.Formula.ahead, ["self", "front"]),
    (formulas.Formula.behind, ["self", "back"]), (formulas.Formula.only, ["self", "names"]), (tables.RowTable, ["formulas"]),
    (tables.RowTable.kept, ["self", "row"]), (tables.RowTable.weights, ["self", "row"]), (gauges.Gauge, ["table"]),
    (gauges.Gauge.push, ["self", "item"]), (gauges.Gauge.push_row, ["self", "row"]), (gauges.Gauge.told_after, ["self", "row"]),
    (gauges.Gauge.back, ["self", "number"]), (gauges.Gauge.parted, ["self", "other"]),
    (learners.Learner, ["teacher", "pattern", "most"]), (learners.Learner.object, ["self", "row"]),
]

FUNCTIONS = [
    (alike, {"difference": ["first", "second"]}),
    (width, {"tails": ["fold"], "heads": ["fold"], "kept": ["fold", "row"], "narrowest": ["fold"]}),
    (order, {"order_example": ["fold"], "is_order_example": ["fold", "value"]}),
    (back, {"back_table": ["fold", "item"], "obstacle": ["fold", "item"], "is_obstacle": ["fold", "item", "value"]}),
    (formulas, {"item_weights": ["kinds", "item"]}),
    (compared, {"parting_row": ["first", "second"], "width_of": ["formula"], "narrowest_of": ["formula"]}),
    (relations, {"relations": ["formulas"], "witnesses": ["formulas"], "splitters": ["formulas"]}),
    (repeats, {"recursion": ["formula", "front", "piece", "back"]}),
]


def trees():
    return {path: ast.parse(path.read_text()) for path in sorted(PACKAGE.glob("*.py"))}


class Interface(unittest.TestCase):
    def test_classes_stand_in_their_files(self):
        for name in ["PartError", *ERRORS]:
            self.assertEqual(getattr(errors, name).__module__, "foldparts.errors")
        for name, one in CLASSES.items():
            self.assertEqual(one.__module__, name)

    def test_methods_stand_in_their_classes(self):
        for one, names in METHODS:
            for name in names:
                self.assertIn(name, vars(one))
        for one in (ratios.Ratio, folds.Fold):
            self.assertIsInstance(vars(one)["parse"], classmethod)

    def test_functions_stand_in_their_files(self):
        for module, functions in FUNCTIONS:
            for name, arguments in functions.items():
                self.assertEqual(getattr(module, name).__module__, module.__name__)
                self.assertEqual(list(signature(getattr(module, name)).parameters), arguments)

    def test_arguments(self):
        for called, arguments in ARGUMENTS:
            self.assertEqual(list(signature(called).parameters), arguments)


class Form(unittest.TestCase):
    def test_the_folder_holds_the_files_of_the_package_only(self):
        for path in PACKAGE.iterdir():
            self.assertTrue(path.suffix == ".py" or path.name == "__pycache__", path)
        self.assertTrue((PACKAGE / "__init__.py").is_file())

    def test_sizes_and_signs(self):
        for path, tree in trees().items():
            text = path.read_text()
            self.assertTrue(all(sign == "\n" or " " <= sign <= "~" for sign in text), path)
            self.assertLess(len(text.splitlines()), 400, path)
            self.assertLessEqual(max(len(row) for row in text.splitlines()), 120, path)
            for node in ast.walk(tree):
                if isinstance(node, ast.FunctionDef):
                    self.assertLessEqual(node.end_lineno - node.lineno + 1, 40, node.name)

    def test_imports(self):
        for path, tree in trees().items():
            for node in ast.walk(tree):
                self.assertNotIsInstance(node, ast.Import, path)
                if isinstance(node, ast.ImportFrom):
                    names = [alias.name for alias in node.names]
                    self.assertEqual(node.level, 0, path)
                    self.assertTrue(node.module.startswith("foldparts.") or node.module == "math", path)
                    if node.module == "math":
                        self.assertLessEqual(set(names), {"gcd", "lcm"})
                    for alias in node.names:
                        self.assertIsNone(alias.asname)

    def test_no_floats_and_no_true_division(self):
        for path, tree in trees().items():
            for node in ast.walk(tree):
                self.assertNotIsInstance(node, ast.Div, path)
                self.assertFalse(isinstance(node, ast.Constant) and isinstance(node.value, float), path)


if __name__ == "__main__":
    unittest.main()
