"""The text form of a fold: which texts are read, and the row that InvalidText tells for the other ones."""

import random
import unittest

from foldparts.errors import InvalidText, PartError
from foldparts.folds import Fold
from foldparts.ratios import Ratio
from reference import FULL, MEAN, SMALL, WORDS, can_begin, is_right_row, is_text_form, random_sketch, row_of

# The products of registers s and t and of fields f and g, in the order of point 8.
PRODUCTS = [
    "s", "s*f", "s*g", "s*f*f", "s*f*g", "s*g*g",
    "t", "t*f", "t*g", "t*f*f", "t*f*g", "t*g*g",
    "1", "f", "g", "f*f", "f*g", "g*g",
]

NUMBERS = ["0", "1", "-1", "12", "-12", "1/2", "-1/2", "7/100", "-1000/3", "9" * 1000, "-1/1" + "0" * 999]

NO_NUMBERS = [
    "", "+1", "-0", "00", "01", "2/4", "3/1", "0/3", "1/0", "1/-2", "--1", "- 1", "1/", "/2", "1/2/3", "x", "s", "1 ", " 1",
    "1.5", "2*3", "1\t", "1/02", "-01", "1 + 1",
]

NO_NAMES = ["", "abcdefghi", "A", "aB", "a1", "1", "a_b", "_", "a-b", "a.b", "a\tb", "*", "a,", "=", "-", "\u00e9", "\u00aa"]


def with_sum(text, fields="f g"):
    return f"fold x\n  start s = 1\n  start t = 0\n  item k {fields}\n    t = {text}\n  result s\nend"


def with_result(text):
    return f"fold x\n  start s = 1\n  start t = 0\n  item k f g\n  result {text}\nend"


class TextTest(unittest.TestCase):
    def assert_read(self, text):
        fold = Fold.parse(text)
        self.assertIs(type(fold), Fold)
        self.assertEqual(str(fold), text)
        return fold

    def assert_row(self, text, row):
        for caught in (InvalidText, PartError, ValueError):
            with self.assertRaises(caught) as found:
                Fold.parse(text)
            self.assertEqual(found.exception.row, row, text)


class Forms(TextTest):
    def test_the_parts_of_a_fold(self):
        fold = Fold.parse(text=FULL)
        self.assertEqual(fold.name, "fullfold")
        self.assertEqual(fold.registers, (("a", Ratio(-1, 2)), ("longname", Ratio(12, 1)), ("c", Ratio(0, 1))))
        self.assertEqual(fold.kinds, (("x", ("v", "w")), ("y", ()), ("item", ("item",))))
        self.assertLessEqual({"name", "registers", "kinds"}, set(vars(fold)))

    def test_read_and_written_unchanged(self):
        for text in (MEAN, FULL, WORDS, SMALL):
            self.assert_read(text)
            self.assertTrue(is_text_form(text))

    def test_no_register(self):
        fold = self.assert_read("fold a\n  item b c\n  item d\n  result -5/3\nend")
        self.assertEqual((fold.name, fold.registers, fold.kinds), ("a", (), (("b", ("c",)), ("d", ()))))

    def test_numbers_of_registers_kinds_and_fields(self):
        starts = ["  start a = 0", "  start b = -1/2", "  start c = 3"]
        kinds = ["  item x", "  item y v", "  item z v w"]
        for many in range(4):
            for first in range(3):
                for last in range(first + 1, 4):
                    rows = ["fold f", *starts[:many], *kinds[first:last], "  result 1", "end"]
                    fold = self.assert_read("\n".join(rows))
                    self.assertEqual(len(fold.registers), many)
                    self.assertEqual(fold.kinds, (("x", ()), ("y", ("v",)), ("z", ("v", "w")))[first:last])

    def test_names_of_one_and_eight_letters(self):
        for name in ("a", "z", "abcdefgh", "zzzzzzzz", "ab"):
            fold = self.assert_read(f"fold {name}\n  start {name} = 0\n  item {name}\n    {name} = 1\n  result {name}\nend")
            self.assertEqual((fold.name, fold.registers[0][0], fold.kinds[0][0]), (name, name, name))
            self.assert_read(f"fold x\n  start s = 0\n  item {name} {name}\n    s = {name}*{name}\n  result s\nend")

    def test_words_of_the_form_as_names(self):
        words = ["fold", "start", "item", "result", "end"]
        for name in words:
            self.assert_read(f"fold {name}\n  start {name} = 0\n  item {name}\n    {name} = 1\n  result {name}\nend")
            for other in words:
                if other != name:
                    self.assert_read(f"fold fold\n  start {name} = 0\n  item {name} {other}\n"
                                     f"    {name} = {name}*{other}\n  result -{name}\nend")

    def test_the_same_name_where_names_need_not_differ(self):
        self.assert_read("fold a\n  start a = 0\n  item a b\n  item b b c\n  item c c b\n  result a\nend")

    def test_start_values(self):
        for number in NUMBERS:
            fold = self.assert_read(f"fold x\n  start s = {number}\n  item k\n  result 0\nend")
            self.assertEqual(str(fold.registers[0][1]), number)

    def test_updates_of_any_registers_in_order(self):
        rows = ["    a = 0", "    b = 0", "    c = 0"]
        for first in range(8):
            for second in range(8):
                ones = [row for at, row in enumerate(rows) if first >> at & 1]
                twos = [row for at, row in enumerate(rows) if second >> at & 1]
                starts = ["  start a = 0", "  start b = 0", "  start c = 0"]
                rest = ["  item x", *ones, "  item y", *twos, "  result 0", "end"]
                self.assert_read("\n".join(["fold f", *starts, *rest]))


class Sums(TextTest):
    def test_one_term(self):
        for product in PRODUCTS:
            self.assert_read(with_sum("-" + product))
            if product == "t":
                self.assert_row(with_sum(product), 4)
            else:
                self.assert_read(with_sum(product))
            for number in ("2", "-2", "1/2", "-1/2", "10/7", "9" * 1000):
                self.assert_read(with_sum(number if product == "1" else f"{number}*{product}"))
        self.assert_read(with_sum("0"))

    def test_two_terms_in_order(self):
        for first, one in enumerate(PRODUCTS):
            for second, other in enumerate(PRODUCTS):
                for text in (f"{one} + {other}", f"-{one} - {other}", f"{one} - {other}"):
                    if first < second:
                        self.assert_read(with_sum(text))
                    else:
                        self.assert_row(with_sum(text), 4)

    def test_all_terms(self):
        self.assert_read(with_sum(" + ".join(PRODUCTS)))
        self.assert_read(with_sum("-" + " - ".join(PRODUCTS)))
        self.assert_read(with_sum(" - 2/3*".join(PRODUCTS).replace("2/3*1", "2/3")))
        for at in range(len(PRODUCTS) - 1):
            parts = list(PRODUCTS)
            parts[at], parts[at + 1] = parts[at + 1], parts[at]
            self.assert_row(with_sum(" + ".join(parts)), 4)
            self.assert_row(with_sum(" + ".join([*PRODUCTS[:at + 1], *PRODUCTS[at:]])), 4)
            self.assert_read(with_sum(" + ".join([*PRODUCTS[:at], *PRODUCTS[at + 1:]])))

    def test_one_field(self):
        products = ["s", "s*f", "s*f*f", "t", "t*f", "t*f*f", "1", "f", "f*f"]
        self.assert_read(with_sum(" + ".join(products), "f"))
        for product in PRODUCTS:
            if product in products:
                self.assert_read(with_sum("-" + product, "f"))
            else:
                self.assert_row(with_sum(product, "f"), 4)

    def test_no_field(self):
        text = with_sum("s - t + 1").replace("item k f g", "item k")
        self.assert_read(text)
        for product in PRODUCTS:
            if "f" in product or "g" in product:
                self.assert_row(text.replace("s - t + 1", product), 4)

    def test_the_fields_are_those_of_the_kind_itself(self):
        rows = "fold x\n  start s = 0\n  item k f\n    s = f\n  item l g\n    s = {}\n  result s\nend"
        self.assert_read(rows.format("g"))
        self.assert_row(rows.format("f"), 5)

    def test_the_order_of_the_kind_counts(self):
        self.assert_read(with_sum("b - a + b*b - b*a + a*a", "b a"))
        self.assert_row(with_sum("a + b", "b a"), 4)
        self.assert_row(with_sum("a*b", "b a"), 4)
        self.assert_row(with_sum("a*a + b*b", "b a"), 4)

    def test_results(self):
        for text in ("0", "1", "-1", "5/3", "s", "-s", "t", "2*t", "s + t", "-1/2*s - 3*t + 7", "s - 1", "-t + 1/9"):
            self.assert_read(with_result(text))
        for text in PRODUCTS:
            if "f" in text or "g" in text:
                self.assert_row(with_result(text), 4)

    def test_other_sums(self):
        for text in [
            # the coefficients
            "0*s", "1*s", "-1*s", "s + 0", "0 + s", "s - 0", "-0", "s + 0*f", "0*0", "1*s + 1", "s + 1*f", "s - 1*f", "1*1",
            "2*1", "1*2", "2*3", "2*3*s", "2/4*s", "3/1*s", "02*s", "1/02*s", "+2*s", "+s", "2/0*s", "s + 2/4", "s + 01",
            "1/1*s", "s - -2*f", "s + -2*f", "s + -f", "--s", "-+s", "- s", "s +2*f", "s+f", "s -f", "s + - f", "1.5*s", "1/2/3*s",
            "1/-2*s", "-1/-2*s", "2s", "2 *s", "2* s", "s + 1/", "/2*s", "2/*s",
            # the factors
            "f*s", "s*2", "s*2*f", "s*g*f", "g*f", "s*s", "s*t", "t*s*f", "s*f*t", "f*f*f", "s*f*f*f", "f*f*g", "s*f*g*g",
            "h", "s*h", "k", "x", "2*h", "s**f", "*s", "s*", "2*", "*2", "2**s", "*", "s*f*", "S", "s^2", "s f", "(s)", "s/2",
            # the terms and the spaces
            "s + s", "s - s", "s + 2*s", "f + s", "1 + s", "f + 1", "s +", "s + ", "s -", "+", "-", "", " ", " s", "s ", "s  + f",
            "s +  f", "s + f ", " s + f", "s + + f", "s + f -", "s * f", "s\t+ f", "s, f", "s = f", "0 ", " 0", "00", "0 - s",
            "0 + 0", "s + f + f", "s + f + s", "t + s", "2*t + s*f", "t", "s + t + t*f + t",
        ]:
            with self.subTest(text=text):
                self.assert_row(with_sum(text), 4)
                self.assertTrue(is_right_row(with_sum(text), 4))

    def test_other_results(self):
        for text in ["", " ", "s*f", "f", "s + s", "t + s", "1 + s", "0*s", "1*s", "s*t", "s*s", "2*1", "+s", "- s", "s ", " s",
                     "s - -1", "2/4", "01", "s + 0", "-0", "h", "s + f", "s +", "s  + t"]:
            with self.subTest(text=text):
                self.assert_row(with_result(text), 4)

    def test_sums_against_the_second_account(self):
        terms = ["s", "2*s", "s*f", "-s*f", "t", "1", "3", "f", "-1/2*f", "f*f", "0", "0*f"]
        for one in terms:
            for other in terms:
                for joint in (" + ", " - ", " ", "*", "+"):
                    for last in ("", " + f*f", " - 1"):
                        text = with_sum(one + joint + other + last, "f")
                        row = row_of(text)
                        self.assertIn(row, (None, 4))
                        self.assertEqual(row is None, is_text_form(text), text)


class Rows(TextTest):
    """For texts that are not in the form: the first row that no text form has there."""

    def rows(self):
        return MEAN.split("\n")

    def assert_rows(self, rows, row):
        self.assert_row("\n".join(rows), row)

    def test_example_of_the_document(self):
        self.assert_row("fold f\n  start s = 0\n  item x v\n    s = s + v + 1\n  result s\nend", 3)

    def test_rows_are_missing_at_the_end(self):
        for text in (MEAN, FULL, WORDS, SMALL):
            rows = text.split("\n")
            for many in range(1, len(rows)):
                self.assert_rows(rows[:many], many)

    def test_empty_texts(self):
        self.assert_row("", 0)
        self.assert_row("\n", 0)
        self.assert_row("\n\n", 0)
        self.assert_row(" ", 0)
        self.assert_row("\n" + MEAN, 0)

    def test_behind_the_end(self):
        for text in (MEAN, FULL, WORDS, SMALL):
            many = len(text.split("\n"))
            for rest in ("", " ", "\n", "end", "fold f", "  result 0", "  item new", "\nend", text):
                self.assert_row(text + "\n" + rest, many)

    def test_a_row_left_out(self):
        for at, row in [(0, 0), (1, 3), (2, 4), (3, 3), (4, None), (5, None), (6, 6), (7, None), (8, None), (9, 9), (10, 10)]:
            rows = self.rows()
            del rows[at]
            if row is None:
                self.assert_read("\n".join(rows))
            else:
                self.assert_rows(rows, row)

    def test_a_row_doubled(self):
        for text in (MEAN, FULL, WORDS, SMALL):
            rows = text.split("\n")
            for at in range(len(rows)):
                self.assert_rows([*rows[:at + 1], *rows[at:]], at + 1)

    def test_rows_exchanged(self):
        for at, row in enumerate([0, 5, 3, 3, 5, 7, 6, 8, 9, 9]):
            rows = self.rows()
            rows[at], rows[at + 1] = rows[at + 1], rows[at]
            self.assert_rows(rows, row)

    def test_every_row_at_every_place(self):
        for text in (MEAN, FULL, WORDS, SMALL):
            rows = text.split("\n")
            for at in range(len(rows)):
                for place in range(len(rows)):
                    other = rows[:at] + rows[at + 1:]
                    other.insert(place, rows[at])
                    changed = "\n".join(other)
                    self.assertTrue(is_right_row(changed, row_of(changed)), changed)

    def test_too_many_registers(self):
        starts = [f"  start {name} = 0" for name in "abcd"]
        self.assert_rows(["fold f", *starts, "  item x", "  result 0", "end"], 4)
        self.assert_rows(["fold f", *starts], 4)

    def test_too_many_kinds(self):
        self.assert_rows(["fold f", *[f"  item {name}" for name in "abcd"], "  result 0", "end"], 4)
        self.assert_rows(["fold f", "  start s = 0", "  item a", "    s = 0", "  item b", "    s = 0", "  item c", "    s = 0",
                          "  item d", "  result 0", "end"], 8)

    def test_too_many_fields(self):
        self.assert_rows(["fold f", "  item x u v w", "  result 0", "end"], 1)
        self.assert_rows(["fold f", "  item a u v", "  item x u v w", "  result 0", "end"], 2)

    def test_no_kind(self):
        self.assert_rows(["fold f", "  result 0", "end"], 1)
        self.assert_rows(["fold f", "  start s = 0", "  result s", "end"], 2)
        self.assert_rows(["fold f", "end"], 1)

    def test_wrong_names(self):
        for name in NO_NAMES:
            with self.subTest(name=name):
                self.assert_row(SMALL.replace("fold f", f"fold {name}"), 0)
                self.assert_row(SMALL.replace("item x", f"item {name}"), 1)
                self.assert_row(SMALL.replace("item x", f"item x {name}"), 1)
                self.assert_row(SMALL.replace("item x", f"item x y {name}"), 1)
                self.assert_row(SMALL.replace("item x", f"item x {name} y"), 1)
                self.assert_row(f"fold f\n  start {name} = 0\n  item x\n  result 0\nend", 1)
                self.assert_row(f"fold f\n  start s = 0\n  item x\n    {name} = 0\n  result 0\nend", 3)

    def test_equal_names(self):
        self.assert_row("fold f\n  start s = 0\n  start s = 0\n  item x\n  result 0\nend", 2)
        self.assert_row("fold f\n  start s = 0\n  start t = 0\n  start s = 1\n  item x\n  result 0\nend", 3)
        self.assert_row("fold f\n  item x\n  item x\n  result 0\nend", 2)
        self.assert_row("fold f\n  item x\n  item y\n  item x v\n  result 0\nend", 3)
        self.assert_row("fold f\n  item x v v\n  result 0\nend", 1)
        self.assert_row("fold f\n  start s = 0\n  item x s\n  result 0\nend", 2)
        self.assert_row("fold f\n  start s = 0\n  item x v s\n  result 0\nend", 2)
        self.assert_row("fold f\n  start s = 0\n  start t = 0\n  item x t v\n  result 0\nend", 3)

    def test_wrong_start_values(self):
        for number in NO_NUMBERS:
            with self.subTest(number=number):
                self.assert_row(f"fold f\n  start a = 0\n  start s = {number}\n  item x\n  result 0\nend", 2)

    def test_updates(self):
        rows = "fold f\n  start s = 0\n  start t = 0\n  start u = 0\n  item x v\n{}\n  result 0\nend"
        for text, row in [
            ("    s = s", 5), ("    t = t", 5), ("    u = u", 5), ("    s = t\n    t = t", 6), ("    t = s\n    s = t", 6),
            ("    u = 0\n    t = 0", 6), ("    s = 0\n    s = 1", 6), ("    s = 0\n    u = 0\n    t = 0", 7), ("    v = 0", 5),
            ("    x = 0", 5), ("    f = 0", 5), ("    w = 0", 5), ("    s = 0\n    w = 0", 6), ("    s = 1*s", 5),
            ("    s = s + 0", 5), ("    s = 0\n    t = 0\n    u = 0\n    u = 0", 8), ("    s = v\n  item x", 6),
            ("    s = v\n  start w = 0", 6), ("    s = v\n  item y w\n    s = v", 7),
        ]:
            with self.subTest(text=text):
                self.assert_row(rows.format(text), row)

    def test_update_before_the_first_kind(self):
        self.assert_row("fold f\n  start s = 0\n    s = 1\n  item x\n  result 0\nend", 2)
        self.assert_row("fold f\n    s = 1\n  item x\n  result 0\nend", 1)

    def test_wrong_spaces_and_words(self):
        for at, texts in enumerate([
            ["fold  mean", " fold mean", "fold mean ", "foldmean", "fold", "fold ", "Fold mean", "fold mean x", "mean", "fold\tmean"],
            ["  start total=0", " start total = 0", "   start total = 0", "start total = 0", "  start  total = 0",
             "  start total  = 0", "  start total =  0", "  start total = 0 ", "  start total 0", "  start total =", "  start",
             "  start = 0", "  start total", "  Start total = 0", "  begin total = 0", "  start total = 0 0", "  starttotal = 0",
             "  start total == 0", "  start total : 0", "    start total = 0", "", " ", "  ", "\tstart total = 0"],
        ]):
            for text in texts:
                with self.subTest(text=text):
                    self.assert_rows([*self.rows()[:at], text, *self.rows()[at + 1:]], at)
        for at, texts in [
            (3, ["  item  sale price", " item sale price", "   item sale price", "item sale price", "  item sale price ",
                 "  item sale  price", "  item", "  item ", "  itemsale price", "  item sale,price", "  item sale price = 0",
                 "    item sale price", "  Item sale price", "  kind sale price", ""]),
            (4, ["   total = total + price", "     total = total + price", "  total = total + price", "total = total + price",
                 "    total  = total + price", "    total =  total + price", "    total = total + price ", "    total=total + price",
                 "    total", "    total =", "    total = ", "    = total + price", "    total total + price", "    ", "",
                 "    total == total + price", "      total = total + price"]),
            (9, ["  result  2*total - 1/2*many", " result 2*total - 1/2*many", "   result 2*total - 1/2*many", "result many",
                 "    result 2*total - 1/2*many", "  result 2*total - 1/2*many ", "  result = many", "  result", "  result ",
                 "  resultmany", "  Result many", "  result many many", ""]),
            (10, ["end ", " end", "  end", "End", "end.", "", " ", "ends", "en", "end end"]),
        ]:
            for text in texts:
                with self.subTest(text=text):
                    self.assert_rows([*self.rows()[:at], text, *self.rows()[at + 1:]], at)

    def test_a_start_or_a_kind_at_another_place(self):
        for at in (4, 5, 6, 7, 8, 9, 10, 11):
            rows = self.rows()
            rows.insert(at, "  start new = 0")
            self.assert_rows(rows, at)
        for at in (0, 1, 10, 11):
            rows = self.rows()
            rows.insert(at, "  item new")
            self.assert_rows(rows, 2 if at == 1 else at)

    def test_the_first_wrong_row_counts(self):
        rows = self.rows()
        rows[4] = "    total = price + total"
        rows[9] = "  result price"
        self.assert_rows(rows, 4)
        self.assert_rows([*rows[:4], *rows[5:]], 8)

    def test_other_breaks_are_no_breaks(self):
        for other in ("\r\n", "\r", "\x0b", "\x0c", "\u2028", " "):
            self.assert_row(SMALL.replace("\n", other), 0)
        self.assert_row(SMALL.replace("x\n", "x\r\n"), 1)


class Changes(TextTest):
    """Every small change of some texts, against the second account of the text form."""

    def test_signs_left_out_put_in_and_exchanged(self):
        signs = "01a-+*/ \ns="
        text = "fold f\n  start s = -1/2\n  start t = 3\n  item x v w\n    s = 2*s*v - t + v*w\n  item y\n  result s + 1\nend"
        self.assert_read(text)
        many = 0
        for at in range(len(text)):
            for middle in ["", text[at] * 2, *signs, *[sign + text[at] for sign in signs]]:
                changed = text[:at] + middle + text[at + 1:]
                row = row_of(changed)
                self.assertTrue(is_right_row(changed, row), (changed, row))
                many += row is None
        self.assertGreater(many, 100)

    def test_random_folds(self):
        source = random.Random(8)
        for _ in range(300):
            sketch = random_sketch(source)
            fold = self.assert_read(sketch.text())
            self.assertEqual(fold.name, sketch.name)
            self.assertEqual([(name, str(value)) for name, value in fold.registers],
                             [(name, str(value)) for name, value in sketch.starts])
            self.assertEqual(fold.kinds, tuple((name, tuple(fields)) for name, fields, updates in sketch.kinds))

    def test_random_changes_of_rows(self):
        source = random.Random(9)
        for _ in range(600):
            rows = random_sketch(source).text().split("\n")
            others = random_sketch(source).text().split("\n")
            for _ in range(source.randrange(1, 3)):
                at = source.randrange(len(rows))
                rows[at:at + source.randrange(2)] = [source.choice(others + rows)]
            text = "\n".join(rows)
            row = row_of(text)
            self.assertTrue(is_right_row(text, row), (text, row))

    def test_the_row_depends_on_the_rows_up_to_it_only(self):
        source = random.Random(10)
        for _ in range(200):
            rows = random_sketch(source).text().split("\n")
            rows[source.randrange(len(rows))] = source.choice(["  result 1*s", "    a = a", "  item k k k k", ""])
            row = row_of("\n".join(rows))
            self.assertEqual(row_of("\n".join(rows[:row + 1])), row)
            self.assertTrue(row == 0 or can_begin(rows[:row]))
            self.assertEqual(row_of("\n".join(rows[:row]) if row else ""), row)


if __name__ == "__main__":
    unittest.main()
