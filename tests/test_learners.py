"""Points 3, 10, 13 and 30: learners."""

import copy
import random
import unittest

from foldparts.compared import narrowest_of, parting_row, width_of
from foldparts.errors import NoFold, NoObjection, PartError
from foldparts.folds import Fold
from foldparts.formulas import Formula
from foldparts.learners import Learner
from foldparts.ratios import Ratio
from foldparts.width import narrowest, tails
from reference import FULL, MEAN, WORDS
from searches import AFFINE, CONSTANT, DELAY, EXAMPLES, LATE, TRIPLES, VARIANCE, rows_up_to, small_sketch
from test_formulas import Refused, formula_of
from twins import COUNT_B, FAMILIES, LAST, LETTERS, MANY, NEVER, POWERS, STEPS, random_twin

A, B = ("a", ()), ("b", ())


class Teacher:
    """A formula that keeps what it was asked."""

    def __init__(self, formula):
        self.formula = formula
        self.rows = []

    def __call__(self, row):
        self.rows.append(list(row))
        answer = self.formula(row)
        # Whoever asks has no use of this row any more.
        row.append(None)
        return answer


def in_order(pattern, rows):
    items = pattern.test_items()
    return sorted(rows, key=lambda row: (len(row), [items.index(item) for item in row]))


def outcome_of(learner, row):
    """The class of the error that an objection raises, None if it is taken."""
    try:
        learner.object(row)
    except PartError as error:
        return type(error)
    return None


class LearnerTest(Refused):
    def assert_sound(self, learner, teacher, pattern, most):
        """What holds of a learner at any time. Returns the number of registers."""
        guess, asked = learner.guess(), learner.asked()
        self.assertIs(type(guess), Fold)
        self.assertEqual((guess.name, guess.kinds), (pattern.name, pattern.kinds))
        self.assertTrue(narrowest(guess) == guess)
        self.assertLessEqual(len(guess.registers), most)
        self.assertIs(type(asked), list)
        self.assertIn([], asked)
        self.assertEqual(asked, in_order(pattern, asked))
        self.assertEqual(len({str(row) for row in asked}), len(asked))
        for row in asked:
            self.assertIs(type(row), list)
            self.assertEqual(guess(row), teacher.formula(row))
        return len(guess.registers)

    def wrong_rows(self, source, learner, teacher, pattern):
        """Some rows for which the guess is wrong."""
        items = pattern.test_items()
        guess = learner.guess()
        rows = [[source.choice(items) for _ in range(source.randrange(9))] for _ in range(30)]
        rows += rows_up_to(items, 2 if len(items) < 8 else 1)
        if len(guess.registers) + 1 + teacher.formula.size <= 10:
            first = parting_row(Formula(guess), teacher.formula)
            if first is None:
                return []
            rows.append(first)
        return [row for row in rows if guess(row) != teacher.formula(row)]

    def learn(self, source, formula, pattern, most):
        """Object until no row differs or an objection is refused. Returns the learner and whether it was refused."""
        teacher = Teacher(formula)
        width = width_of(formula)
        learner = Learner(teacher, pattern, most)
        self.assertEqual(teacher.rows, [[]])
        self.assertEqual(self.assert_sound(learner, teacher, pattern, most), 0)
        many = 0
        while True:
            wrong = self.wrong_rows(source, learner, teacher, pattern)
            if wrong == []:
                return learner, False
            row = source.choice(wrong)
            before = str(learner.guess()), learner.asked()
            given = list(row)
            del teacher.rows[:]
            try:
                self.assertIsNone(learner.object(row))
            except NoFold:
                self.assertEqual((str(learner.guess()), learner.asked()), before)
                self.assertGreater(width, most)
                return learner, True
            self.assertEqual(row, given)
            # Just what is told has been asked, and nothing of it twice.
            self.assertEqual(in_order(pattern, before[1] + teacher.rows), learner.asked())
            self.assertIn(row, learner.asked())
            row.append(None)
            more = self.assert_sound(learner, teacher, pattern, most)
            self.assertTrue(many < more <= width, (many, more, width))
            many = more


class Learning(LearnerTest):
    def test_example_of_the_document(self):
        many = Fold.parse(MANY)
        learner = Learner(many, many, 1)
        self.assertEqual(str(learner.guess()), "fold many\n  item a\n  result 0\nend")
        learner.object([A] * 3)
        self.assertTrue(learner.guess() == narrowest(many))
        learner = Learner(most=1, pattern=many, teacher=many)
        learner.object(row=[A])
        self.assertTrue(learner.guess() == narrowest(many))

    def test_at_first(self):
        for text in EXAMPLES + [MEAN, FULL, WORDS]:
            fold = Fold.parse(text)
            for most in range(4):
                teacher = Teacher(Formula(fold))
                learner = Learner(teacher, fold, most)
                self.assertEqual([teacher.rows, learner.asked(), teacher.rows], [[[]], [[]], [[]]])
                self.assertEqual(self.assert_sound(learner, teacher, fold, most), 0)
                self.assertEqual(learner.guess().registers, ())
                self.assertEqual(learner.guess()(fold.test_items()), fold([]))

    def test_folds(self):
        source = random.Random(1)
        folds = [Fold.parse(text) for text in EXAMPLES + [MEAN, WORDS, FULL]]
        folds += [Fold.parse(small_sketch(source, 8).text()) for _ in range(25)]
        for fold in folds:
            learner, refused = self.learn(source, Formula(fold), fold, 3)
            self.assertFalse(refused)
            self.assertTrue(learner.guess() == narrowest(fold))

    def test_formulas(self):
        source = random.Random(2)
        for family in FAMILIES:
            ends = {}
            for _ in range(25):
                formula = random_twin(source, family, source.randrange(5), 6).formula
                pattern = Fold.parse(source.choice(family))
                most = source.randrange(4)
                width = width_of(formula)
                learner, refused = self.learn(source, formula, pattern, most)
                self.assertIs(refused, width > most)
                if not refused:
                    self.assertEqual(len(learner.guess().registers), width)
                    self.assertIsNone(parting_row(Formula(learner.guess()), formula))
                    if formula.kinds == pattern.kinds:
                        self.assertEqual(str(learner.guess()).split("\n")[1:], str(narrowest_of(formula)).split("\n")[1:])
                ends[(refused, most)] = True
            self.assertGreaterEqual(len(ends), 6)

    def test_the_most_of_registers(self):
        source = random.Random(3)
        for text, width in [(CONSTANT, 0), (AFFINE, 1), (VARIANCE, 1), (STEPS, 2), (DELAY, 3), (LATE, 3), (TRIPLES, 3)]:
            fold = Fold.parse(text)
            self.assertEqual(len(tails(fold)), width)
            for most in range(4):
                learner, refused = self.learn(source, Formula(fold), fold, most)
                self.assertIs(refused, width > most)
                if not refused:
                    self.assertTrue(learner.guess() == narrowest(fold))

    def test_a_width_far_above(self):
        source = random.Random(4)
        formula = formula_of(POWERS).summed().summed()
        self.assertGreater(width_of(formula), 3)
        for most in range(4):
            self.assertTrue(self.learn(source, formula, Fold.parse(POWERS), most)[1])

    def test_the_name_and_the_fields_of_the_pattern(self):
        pattern = Fold.parse("fold mine\n  start b = 7\n  item x a\n    b = 2*b\n  result 5\nend")
        learner = Learner(Fold.parse(LAST), pattern, 3)
        learner.object([("x", (2,))])
        self.assertEqual(str(learner.guess()), "fold mine\n  start b = 0\n  item x a\n    b = a\n  result b\nend")
        self.assertEqual(str(pattern), "fold mine\n  start b = 7\n  item x a\n    b = 2*b\n  result 5\nend")

    def test_long_rows(self):
        source = random.Random(5)
        formula = formula_of(STEPS)
        teacher = Teacher(formula)
        learner = Learner(teacher, Fold.parse(STEPS), 2)
        row = [source.choice([A, B]) for _ in range(60)]
        while learner.guess()(row) != formula(row):
            learner.object(row)
            self.assert_sound(learner, teacher, Fold.parse(STEPS), 2)
            self.assertIn(row, learner.asked())
        self.assertGreater(len(learner.guess().registers), 0)

    def test_plain_functions_teach(self):
        learner = Learner(lambda row: Ratio(len(row) * len(row), 1), Fold.parse(MANY), 3)
        learner.object([A] * 5)
        self.assertEqual([str(learner.guess()([A] * many)) for many in range(5)], ["0", "1", "4", "9", "16"])


class WhatIsRefused(LearnerTest):
    def told(self, learner):
        return str(learner.guess()), learner.asked()

    def test_no_objection_ahead_of_no_fold(self):
        for most in range(4):
            learner = Learner(Fold.parse(COUNT_B), Fold.parse(COUNT_B), most)
            before = self.told(learner)
            for row in ([], [A], [A, A, A]):
                self.assert_raises(NoObjection, lambda: learner.object(row))
                self.assertEqual(self.told(learner), before)
            if most == 0:
                for row in ([B], [A, B, A], [B, B]):
                    self.assert_raises(NoFold, lambda: learner.object(row))
                    self.assertEqual(self.told(learner), before)
                self.assert_raises(NoObjection, lambda: learner.object([A]))
            else:
                learner.object([A, B])
                before = self.told(learner)
                for row in ([], [A, B], [B, B, A, B]):
                    self.assert_raises(NoObjection, lambda: learner.object(row))
                    self.assertEqual(self.told(learner), before)

    def test_nothing_has_changed(self):
        # What later objections lead to is the same with and without refused ones in between.
        source = random.Random(6)
        refused = 0
        for family in FAMILIES:
            for at in range(24):
                formula = random_twin(source, family, 3, 6).formula
                pattern, most = Fold.parse(family[0]), 1 + at % 3
                items = pattern.test_items()
                tried, taken = Learner(formula, pattern, most), []
                for _ in range(10):
                    row = [source.choice(items) for _ in range(source.randrange(6))]
                    calm = Learner(formula, pattern, most)
                    for other in taken:
                        calm.object(other)
                    before = self.told(tried)
                    outcomes = [outcome_of(learner, row) for learner in (tried, calm)]
                    self.assertEqual(outcomes[0], outcomes[1])
                    self.assertEqual(self.told(tried), self.told(calm))
                    if outcomes[0] is None:
                        taken.append(row)
                    else:
                        self.assertEqual(self.told(tried), before)
                        self.assertIs(outcomes[0] is NoObjection, tried.guess()(row) == formula(row))
                        refused += outcomes[0] is NoFold
        self.assertGreater(refused, 60)

    def test_at_last_it_is_refused(self):
        learner = Learner(formula_of(MANY).summed(), Fold.parse(MANY), 2)
        row = [A] * 6
        accepted = 0
        while True:
            try:
                learner.object(row)
            except NoFold:
                break
            accepted += 1
            row = parting_row(Formula(learner.guess()), formula_of(MANY).summed())
        self.assertLessEqual(accepted, 2)

    def test_a_teacher_that_is_always_0(self):
        learner = Learner(Fold.parse(NEVER), Fold.parse(NEVER), 3)
        for row in rows_up_to([A, B], 3):
            self.assert_raises(NoObjection, lambda: learner.object(row))
        self.assertEqual(learner.asked(), [[]])


class NothingChanges(LearnerTest):
    def test_told_rows_are_new(self):
        learner = Learner(Fold.parse(STEPS), Fold.parse(STEPS), 3)
        learner.object([B])
        first, second = learner.asked(), learner.asked()
        before = copy.deepcopy(first)
        self.assertEqual(len({id(row) for row in first + second}), len(first + second))
        for row in first:
            row.append(7)
        first.clear()
        self.assertEqual(learner.asked(), before)
        guess = str(learner.guess())
        for row in rows_up_to([A, B], 4):
            if learner.guess()(row) != formula_of(STEPS)(row):
                learner.object(row)
                break
        self.assertTrue(learner.guess() == narrowest(Fold.parse(STEPS)) or str(learner.guess()) == guess)

    def test_a_row_may_be_changed_afterwards(self):
        learner, other = [Learner(Fold.parse(STEPS), Fold.parse(STEPS), 3) for _ in range(2)]
        row = [A, B, A]
        learner.object(row)
        row.clear()
        other.object([A, B, A])
        self.assertEqual([learner.asked(), str(learner.guess())], [other.asked(), str(other.guess())])
        self.assertIn([A, B, A], learner.asked())

    def test_two_learners_of_one_teacher(self):
        source = random.Random(7)
        for _ in range(6):
            formula = random_twin(source, LETTERS, 3, 5).formula
            rows = rows_up_to([A, B], 4)
            source.shuffle(rows)
            learners = [Learner(formula, Fold.parse(STEPS), 3) for _ in range(2)]
            for row in rows:
                told = [outcome_of(learner, list(row)) for learner in learners]
                self.assertEqual(told[0], told[1])
                self.assertEqual(learners[0].asked(), learners[1].asked())


if __name__ == "__main__":
    unittest.main()
