import unittest

from soleway import numbers as numbers_file
from soleway.errors import TooWide
from soleway.formtexts import read_form
from soleway.numbers import many_rows, most_signs, number_of, row_at
from soleway.opening import opened
from soleway.readings import how_many, takes
from paperforms import FOUR_HUNDRED_LISTS, FOUR_HUNDRED_STANDS, WIDE, forms
from plainly import A, rows_up_to, shortlex

EMPTY = ("row", ())
ALL = read_form("0.. ( a b )")


class Many(unittest.TestCase):

    def test_small_forms(self):
        rows = rows_up_to("ab", 5)
        for form in forms():
            taken = [row for row in rows if takes(form, row)]
            for n in range(6):
                self.assertEqual(many_rows(form, n), len([row for row in taken if len(row) == n]), (form, n))

    def test_rows_are_counted_not_readings(self):
        for text, n, ways in [("( a a )", 1, 2), ("0.. ( a a )", 3, 8), ("[ 0..1 a 0..1 a ]", 1, 2),
                              ("1..2 1..2 a", 2, 2)]:
            form = read_form(text)
            self.assertEqual(many_rows(form, n), 1, text)
            self.assertEqual(how_many(form, ("a",) * n), ways)
        self.assertEqual(many_rows(read_form("3..3 ( a b a [ a ] )"), 3), 8)

    def test_no_signs_and_a_hundred(self):
        for text, none, hundred in [("[ ]", 1, 0), ("a", 0, 0), ("0.. a", 1, 1), ("1.. a", 0, 1),
                                    ("0.. ( a b )", 1, 2 ** 100),
                                    ("0.. ( a b c d e f )", 1, 6 ** 100), ("0.. 3..3 a", 1, 0),
                                    ("0.. 4..4 ( a b )", 1, 2 ** 100),
                                    ("10..10 10..10 ( a b c )", 0, 3 ** 100), ("9..9 11..11 a", 0, 0),
                                    ("0..1 10..10 10..10 a", 1, 1),
                                    ("[ 0.. a 0.. b ]", 1, 101), ("( 0.. [ a b ] 0.. 2..2 ( a b ) )", 1, 2 ** 100)]:
            form = read_form(text)
            self.assertEqual(many_rows(form, 0), none, text)
            self.assertEqual(many_rows(form, 100), hundred, text)

    def test_by_name_and_where_it_is(self):
        self.assertEqual(many_rows(form=A, n=1), 1)
        self.assertEqual(row_at(form=A, number=0), ("a",))
        self.assertEqual(number_of(form=A, row=("a",)), 0)
        self.assertEqual(most_signs(form=A), 1)
        for function in (many_rows, row_at, number_of, most_signs):
            self.assertEqual(function.__module__, numbers_file.__name__)


class Numbers(unittest.TestCase):

    def test_small_forms_there_and_back(self):
        rows = shortlex(rows_up_to("ab", 4))
        for form in forms():
            taken = [row for row in rows if takes(form, row)]
            for number, row in enumerate(taken):
                self.assertEqual(row_at(form, number), row, (form, number))
                self.assertEqual(number_of(form, row), number, (form, row))
            after = row_at(form, len(taken))
            if after is not None:
                self.assertGreater(len(after), 4)
                self.assertEqual(number_of(form, after), len(taken))
            for row in rows[::3]:
                self.assertEqual(number_of(form, row) is None, row not in taken)

    def test_the_first_the_last_and_one_behind(self):
        for text, many, first, last in [("[ ]", 1, "", ""), ("a", 1, "a", "a"), ("( b a )", 2, "a", "b"),
                                        ("0..3 a", 4, "", "aaa"),
                                        ("2..2 ( b a )", 4, "aa", "bb"), ("( [ b b ] c [ a c ] )", 3, "c", "bb"),
                                        ("10..10 ( a b )", 1024, "a" * 10, "b" * 10),
                                        ("0..12 ( a b c )", 797161, "", "c" * 12),
                                        ("10..10 4..4 ( a b c d e f )", 6 ** 40, "a" * 40, "f" * 40),
                                        ("0..10 10..10 a", 11, "", "a" * 100)]:
            form = read_form(text)
            self.assertEqual(row_at(form, 0), tuple(first), text)
            self.assertEqual(row_at(form, many - 1), tuple(last), text)
            for behind in (many, many + 1, 10 * many, 10 ** 100):
                self.assertIsNone(row_at(form, behind), text)
            self.assertEqual(number_of(form, tuple(last)), many - 1)
            self.assertEqual(number_of(form, tuple(first)), 0)

    def test_numbers_far_greater_than_can_be_listed(self):
        ahead = sum(2 ** n for n in range(60))
        self.assertEqual(number_of(ALL, ("a",) * 60), ahead)
        self.assertEqual(number_of(ALL, ("b",) * 60), ahead + 2 ** 60 - 1)
        self.assertEqual(row_at(ALL, ahead), ("a",) * 60)
        self.assertEqual(row_at(ALL, ahead - 1), ("b",) * 59)
        self.assertEqual(row_at(ALL, sum(2 ** n for n in range(101)) - 1), ("b",) * 100)
        form = read_form("0.. ( [ a 0..1 b ] 2..3 c d [ e f ] )")
        for number in (10 ** 3, 10 ** 9 + 7, 10 ** 20, 3 ** 60):
            row = row_at(form, number)
            self.assertIs(takes(form, row), True)
            self.assertEqual(number_of(form, row), number)
            self.assertLess((len(row), row), min((len(more), more) for more in [row_at(form, number + 1)]))

    def test_long_rows(self):
        form = read_form("0.. [ a 0..1 b ]")
        row = ("a", "b") * 30
        self.assertEqual(row_at(form, number_of(form, row)), row)
        self.assertEqual(row_at(read_form("0.. a"), 100), ("a",) * 100)
        self.assertEqual(row_at(read_form("0.. 3..3 a"), 33), ("a",) * 99)

    def test_signs_of_several_letters(self):
        form = read_form("1..2 ( b a ab aa )")
        told = [row_at(form, number) for number in range(21)]
        expected = shortlex([row for row in rows_up_to(["a", "aa", "ab", "b"], 2) if row])
        self.assertEqual(told, expected + [None])
        self.assertEqual([number_of(form, row) for row in expected], list(range(20)))

    def test_rows_that_are_not_taken(self):
        for text, rows in [("[ a b ]", ("", "a", "b", "ba", "ab" * 2, "abc", "c", "ac")),
                           ("0.. 2..2 a", ("a", "aaa", "b", "aab")),
                           ("[ ]", ("a", "z")), ("2..3 a", ("", "a", "aaaa", "aba"))]:
            for row in rows:
                self.assertIsNone(number_of(read_form(text), tuple(row)), (text, row))
        self.assertIsNone(number_of(A, ("aa",)))

    def test_forms_that_are_told(self):
        for text in ("0..12 [ a 0..1 b ]", "2..12 ( a b )"):
            form = read_form(text)
            for number in (0, 1, 2, 3, 50, 500, 5000):
                self.assertEqual(row_at(opened(form), number), row_at(form, number))


class Most(unittest.TestCase):

    def test_with_a_most(self):
        for text, most in [("[ ]", 0), ("0..5 [ ]", 0), ("0.. [ ]", 0), ("a", 1), ("( [ a b c ] [ a b ] )", 3),
                           ("0..3 a", 3),
                           ("2..12 2..12 a", 144), ("[ 0..1 a 0..2 b ]", 3), ("( 3..3 a 2..2 [ a b ] )", 4),
                           ("0.. 0..3 [ ]", 0),
                           ("12..12 ( a [ b b ] )", 24), ("0..1 0..1 a", 1)]:
            self.assertEqual(most_signs(read_form(text)), most, text)

    def test_without_a_most(self):
        for text in ("0.. a", "1.. a", "12.. a", "[ a 0.. b ]", "( [ a a ] [ b 0.. b ] )", "0..2 1.. a",
                     "0.. ( [ ] a )", "2.. 12..12 a"):
            self.assertIsNone(most_signs(read_form(text)), text)

    def test_small_forms(self):
        rows = rows_up_to("ab", 5)
        for form in forms()[::2]:
            most = most_signs(form)
            longest = max([len(row) for row in rows if takes(form, row)], default=0)
            if most is None or most > 5:
                self.assertTrue(any(many_rows(form, n) for n in range(6, 30)), form)
            else:
                self.assertEqual(longest, most, form)
                self.assertEqual([many_rows(form, n) for n in range(most + 1, 30)], [0] * (29 - most))


class Wide(unittest.TestCase):

    def test_just_at_the_bounds(self):
        self.assertEqual(most_signs(FOUR_HUNDRED_LISTS), 399)
        self.assertEqual(many_rows(FOUR_HUNDRED_LISTS, 100), 0)
        self.assertIsNone(row_at(FOUR_HUNDRED_LISTS, 1))
        self.assertIsNone(number_of(FOUR_HUNDRED_LISTS, ("a", "b", "c")))
        self.assertEqual(many_rows(FOUR_HUNDRED_STANDS, 10), 1)
        self.assertEqual(number_of(FOUR_HUNDRED_STANDS, ("a",) * 10), 0)

    def test_refused_ahead_of_all_else(self):
        for form in WIDE:
            with self.assertRaises(TooWide):
                most_signs(form)
            for n in (0, 1, 100, 1000):
                with self.assertRaises(TooWide):
                    many_rows(form, n)
                with self.assertRaises(TooWide):
                    row_at(form, n)
            for row in ((), ("a",), ("z",) * 60):
                with self.assertRaises(TooWide):
                    number_of(form, row)


if __name__ == "__main__":
    unittest.main()
