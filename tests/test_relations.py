"""Points 3 and 27: relations, witnesses and splitters."""

import copy
import random
import unittest
from fractions import Fraction

from foldparts.errors import OtherKinds, TooLarge
from foldparts.ratios import Ratio
from foldparts.relations import relations, splitters, witnesses
from searches import Basis, any_row, fraction_of, rows_up_to, texts
from test_formulas import Refused, formula_of
from test_tables import twins_up_to
from twins import (
    ALWAYS, COUNT_A, COUNT_B, FAMILIES, LAST_IS_B, LETTERS, MANY, NEVER, ONE, POWERS, STEPS, few_items, items_of_kinds, random_twin,
    twin_of,
)

A, B = ("a", ()), ("b", ())


def combinations_of(source, family):
    """Twins of a size of at most ten together, some of which are sums of others and constants."""
    constant = {"a": ALWAYS}.get(twin_of(family[0]).kinds[0][0])
    twins = twins_up_to(source, family, source.randrange(1, 4), 5)
    for _ in range(source.randrange(4)):
        left = 10 - sum(twin.size for twin in twins)
        one, other = source.choice(twins), source.choice(twins)
        ways = [one, one * Fraction(-2, 3), one * 0]
        if max(one.size * 2, one.size + other.size) <= 8:
            ways += [one - one, one + other, other * Fraction(5) - one]
        more = source.choice(ways)
        if constant and source.randrange(3) == 0:
            more = source.choice([twin_of(constant), more + twin_of(constant) if more.size < 8 else more])
        if more.size <= left and len(twins) < 5:
            twins.insert(source.randrange(len(twins) + 1), more)
    return twins


class RelationTest(Refused):
    def assert_all(self, twins, rows):
        formulas = [twin.formula for twin in twins]
        given = list(formulas)
        found, seen, apart = relations(formulas), witnesses(formulas), splitters(formulas)
        self.assertEqual(formulas, given)
        size = len(twins) + 1
        self.assertEqual(len(found) + len(seen), size)
        self.assertEqual(len(apart), len(seen))
        for one in found + apart:
            self.assertIs(type(one), list)
            self.assertEqual(len(one), size)
            self.assertTrue(all(type(number) is Ratio for number in one))
        places = [max(at for at, number in enumerate(one) if number != Ratio(0, 1)) for one in found]
        self.assertEqual(places, sorted(set(places)))
        for at, one in enumerate(found):
            self.assertEqual([one[place] for place in places], [Ratio(int(place == places[at]), 1) for place in places])
        vectors = [[Fraction(1), *[twin(row) for twin in twins]] for row in rows]
        for one in found:
            for vector in vectors:
                self.assertEqual(product(one, vector), 0)
        for at, one in enumerate(apart):
            self.assertEqual([one[place] for place in places], [Ratio(0, 1)] * len(places))
            for to, row in enumerate(seen):
                self.assertEqual(product(one, [Fraction(1), *[twin(row) for twin in twins]]), int(at == to))
        return seen

    def assert_searched(self, twins, longest):
        """The witnesses among the rows up to a length; whether these are all."""
        rows = rows_up_to(items_of_kinds(twins[0].kinds), longest)
        seen = self.assert_all(twins, rows)
        basis = Basis()
        plain = [row for row in rows if basis.add([Fraction(1), *[twin(row) for twin in twins]])]
        self.assertEqual([row for row in seen if len(row) <= longest], plain)
        return len(plain) == len(seen)


def product(numbers, vector):
    return sum(fraction_of(number) * other for number, other in zip(numbers, vector))


class Relations(RelationTest):
    def test_example_of_the_document(self):
        many = formula_of(MANY)
        one = formula_of(MANY.replace("result s", "result 1"))
        found = [many, many * Ratio(2, 1) + one]
        self.assertEqual([[texts(row) for row in relations(formulas=found)], witnesses(formulas=found)], [[["-1", "-2", "1"]], [[], [A]]])
        self.assertEqual([texts(row) for row in splitters(formulas=found)], [["1", "-1", "0"], ["0", "1", "0"]])

    def test_no_formulas(self):
        self.assertEqual([relations([]), witnesses([]), splitters([])], [[], [[]], [[Ratio(1, 1)]]])

    def test_by_hand(self):
        many, one, never = formula_of(MANY), formula_of(ONE), formula_of(ONE.replace("result 1", "result 0"))
        for formulas, told, seen in [
            ([never], [["0", "1"]], [[]]),
            ([one], [["-1", "1"]], [[]]),
            ([one, never, one], [["-1", "1", "0", "0"], ["0", "0", "1", "0"], ["-1", "0", "0", "1"]], [[]]),
            ([many], [], [[], [A]]),
            ([many, many], [["0", "-1", "1"]], [[], [A]]),
            ([-many, many, one], [["0", "1", "1", "0"], ["-1", "0", "0", "1"]], [[], [A]]),
            ([many, many.running()], [], [[], [A], [A, A]]),
            ([many.running(), many, many.summed()], [], [[], [A], [A, A], [A, A, A]]),
            ([many.mirrored(), many.running(), many], [["0", "-1", "0", "1"]], [[], [A], [A, A]]),
        ]:
            self.assertEqual([texts(row) for row in relations(formulas)], told)
            self.assertEqual(witnesses(formulas), seen)

    def test_late_witnesses(self):
        # The formula tells what the second item from behind was, so short rows show nothing.
        text = "fold f\n  start s = 0\n  start t = 0\n  item a\n    s = 0\n    t = s\n  item b\n    s = 1\n    t = s\n  result t\nend"
        twin = twin_of(text)
        self.assertEqual(witnesses([twin.formula]), [[], [B, A]])
        self.assertEqual(witnesses([twin.formula, twin.formula.behind([B])]), [[], [B], [B, A]])
        self.assertTrue(self.assert_searched([twin, twin.mirrored(), twin.behind([A, A])], 4))
        self.assertTrue(self.assert_searched([twin, twin_of(LAST_IS_B)], 4))

    def test_letters_against_all_rows(self):
        source = random.Random(1)
        whole, counts = 0, {}
        for _ in range(100):
            twins = combinations_of(source, LETTERS)
            whole += self.assert_searched(twins, 4)
            key = (len(twins), len(relations([twin.formula for twin in twins])))
            counts[key] = counts.get(key, 0) + 1
        self.assertGreater(whole, 85)
        self.assertGreater(len(counts), 9)
        self.assertEqual({many for many, told in counts}, {1, 2, 3, 4, 5})

    def test_fields_against_all_rows(self):
        source = random.Random(2)
        for family in FAMILIES[1:]:
            whole = 0
            for _ in range(20):
                twins = combinations_of(source, family)
                whole += self.assert_searched(twins, 2)
                self.assert_all(twins, [any_row(source, twins[0], 3), few_items(source, twins[0], 4)])
            self.assertGreater(whole, 9)

    def test_sums_and_constants(self):
        steps, count, always = twin_of(STEPS), twin_of(COUNT_B), twin_of(ALWAYS)
        self.assertTrue(self.assert_searched([steps, count, always, steps], 4))
        self.assertTrue(self.assert_searched([count, twin_of(COUNT_A), count - twin_of(COUNT_A), always], 4))
        self.assertTrue(self.assert_searched([twin_of(NEVER), count * Fraction(3) + always, twin_of(NEVER), count], 4))
        self.assertTrue(self.assert_searched([twin_of(POWERS)] * 5, 3))

    def test_each_relation_is_a_sum_of_told_ones(self):
        # Point 27: of a relation, the numbers at the leading places tell of which.
        source = random.Random(3)
        for _ in range(20):
            twins = combinations_of(source, LETTERS)
            formulas = [twin.formula for twin in twins]
            found = relations(formulas)
            rows = rows_up_to([A, B], 4)
            basis = Basis()
            for row in rows:
                basis.add([Fraction(1), *[twin(row) for twin in twins]])
            # So many dimensions are left for relations.
            self.assertEqual(len(formulas) + 1 - len(basis.rows), len(found))

    def test_what_is_refused(self):
        many = formula_of(MANY)
        great = many.summed().summed().summed()
        other = formula_of(ONE.replace("item a", "item b"))
        for called in (relations, witnesses, splitters):
            self.assert_raises(OtherKinds, lambda: called([great, great, other]))
            self.assert_raises(OtherKinds, lambda: called(formulas=[other, many]))
            self.assert_raises(TooLarge, lambda: called([great, many, formula_of(ONE)]), size=11)
            self.assertEqual(len(called([great, many])), 0 if called is relations else 3)

    def test_new_each_time(self):
        twin = random_twin(random.Random(4), LETTERS, 3, 5)
        formulas = [twin.formula, twin.formula * Ratio(2, 1)]
        for called in (relations, witnesses, splitters):
            first, second = called(formulas), called(formulas)
            before = copy.deepcopy(first)
            lists = [first, second, *first, *second]
            self.assertEqual(len({id(one) for one in lists}), len(lists))
            for one in lists:
                self.assertIs(type(one), list)
                one.append(7)
            self.assertEqual(called(formulas), before)


if __name__ == "__main__":
    unittest.main()
