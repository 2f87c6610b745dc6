import unittest

from soleway import opening as opening_file
from soleway.alike import alike
from soleway.errors import TooMany, TooWide, WayError
from soleway.forms import is_form, is_plain, may_nothing, pieces
from soleway.formtexts import form_text, read_form
from soleway.machines import least
from soleway.once import once
from soleway.opening import opened
from soleway.readings import takes
from soleway.sure import sure
from paperforms import WIDE, forms
from plainly import A, B, rows_up_to

EMPTY = ("row", ())


def opened_plainly(form):
    """What the document says of forms that are opened, word for word."""
    if form[0] == "sign":
        return form
    if form[0] != "times":
        return (form[0], tuple(opened_plainly(part) for part in form[1]))
    _, inner, low, high = form
    part = opened_plainly(inner)
    if (low, high) in [(0, 1), (0, None), (1, None)]:
        return ("times", part, low, high)
    told = [part] * low
    if high is None:
        told = [part] * (low - 1) + [("times", part, 1, None)]
    elif high > low:
        rest = None
        for _ in range(high - low):
            rest = ("times", part if rest is None else ("row", (part, rest)), 0, 1)
        told.append(rest)
    return told[0] if len(told) == 1 else ("row", tuple(told))


def times_in(form):
    if form[0] == "sign":
        return []
    if form[0] == "times":
        return [form] + times_in(form[1])
    return [inner for part in form[1] for inner in times_in(part)]


class Opened(unittest.TestCase):

    def test_the_examples_of_the_document(self):
        for text, expected in [("1..3 a", "[ a 0..1 [ a 0..1 a ] ]"), ("0..2 a", "0..1 [ a 0..1 a ]"),
                               ("2.. a", "[ a 1.. a ]")]:
            self.assertEqual(opened(read_form(text)), read_form(expected))

    def test_each_case(self):
        for text, expected in [
                ("a", "a"), ("[ ]", "[ ]"), ("[ a ]", "[ a ]"), ("( a )", "( a )"), ("0..1 a", "0..1 a"),
                ("0.. a", "0.. a"),
                ("1.. a", "1.. a"), ("1..1 a", "a"), ("2..2 a", "[ a a ]"), ("3..3 a", "[ a a a ]"),
                ("1..2 a", "[ a 0..1 a ]"),
                ("0..3 a", "0..1 [ a 0..1 [ a 0..1 a ] ]"), ("2..3 a", "[ a a 0..1 a ]"),
                ("2..4 a", "[ a a 0..1 [ a 0..1 a ] ]"),
                ("3.. a", "[ a a 1.. a ]"), ("5.. a", "[ a a a a 1.. a ]"), ("1..1 [ ]", "[ ]"),
                ("2..2 [ a b ]", "[ [ a b ] [ a b ] ]"),
                ("[ 2..2 a b ]", "[ [ a a ] b ]"), ("( 1..1 a 2..2 b )", "( a [ b b ] )"),
                ("2..3 ( a b )", "[ ( a b ) ( a b ) 0..1 ( a b ) ]"),
                ("[ 1..1 a ]", "[ a ]"), ("1..1 [ 1..1 a ]", "[ a ]"), ("2..2 [ ]", "[ [ ] [ ] ]")]:
            self.assertEqual(form_text(opened(read_form(text))), expected, text)

    def test_times_within_times(self):
        for text, expected in [
                ("0.. 2..2 a", "0.. [ a a ]"), ("2..2 0.. a", "[ 0.. a 0.. a ]"), ("0..1 1..1 a", "0..1 a"),
                ("1..1 1..1 1..1 a", "a"),
                ("2..2 2..2 a", "[ [ a a ] [ a a ] ]"), ("1..2 1..2 a", "[ [ a 0..1 a ] 0..1 [ a 0..1 a ] ]"),
                ("0..2 2.. a", "0..1 [ [ a 1.. a ] 0..1 [ a 1.. a ] ]"),
                ("2.. 0..2 a", "[ 0..1 [ a 0..1 a ] 1.. 0..1 [ a 0..1 a ] ]"),
                ("1.. [ 2..2 a 1..1 b ]", "1.. [ [ a a ] b ]"), ("2..2 1..1 0..1 a", "[ 0..1 a 0..1 a ]")]:
            self.assertEqual(form_text(opened(read_form(text))), expected, text)

    def test_the_greatest_counts(self):
        ahead = "0..1 [ a " * 11 + "0..1 a" + " ]" * 11
        self.assertEqual(form_text(opened(read_form("0..12 a"))), ahead)
        self.assertEqual(form_text(opened(read_form("12.. a"))), "[ " + "a " * 11 + "1.. a ]")
        self.assertEqual(form_text(opened(read_form("12..12 a"))), "[ " + "a " * 12 + "]")
        self.assertEqual(form_text(opened(read_form("11..12 a"))), "[ " + "a " * 11 + "0..1 a ]")

    def test_small_forms(self):
        rows = rows_up_to("ab", 4)
        for form in forms():
            told = opened(form)
            self.assertEqual(told, opened_plainly(form), form)
            self.assertIs(is_plain(told), True)
            self.assertEqual(opened(told), told)
            for row in rows:
                self.assertIs(takes(told, row), takes(form, row), (form, row))

    def test_the_same_rows(self):
        for form in forms()[::3] + [read_form(text)
                                    for text in ("0..12 [ a 0..1 b ]", "3..12 0..2 ( a b )", "12.. [ a b 3..4 c ]")]:
            self.assertEqual(alike(form, opened(form))[0], "alike", form)
            self.assertEqual(least(form), least(opened(form)))

    def test_places_at_once(self):
        many = [0, 0]
        for form in forms():
            at_once = once(opened(form))[0] == "once"
            if at_once:
                many[0] += 1
                self.assertEqual(once(form)[0], "once", form)
            plain = [(0, 1), (0, None), (1, None)]
            if sure(form)[0] == "sure" and not any(may_nothing(times[1]) for times in times_in(form)
                                                   if times[2:] not in plain):
                many[1] += 1
                self.assertIs(at_once, True, form)
        self.assertTrue(all(number > 30 for number in many), many)

    def test_at_once_though_what_is_opened_is_not(self):
        for text in ("0..2 0..2 a", "1..2 1..2 a", "2..2 0.. a", "2..3 0..1 a"):
            form = read_form(text)
            self.assertEqual((once(form)[0], once(opened(form))[0]), ("once", "two"), text)

    def test_by_name_and_where_it_is(self):
        self.assertEqual(opened(form=A), A)
        self.assertEqual(opened.__module__, opening_file.__name__)


class Pieces(unittest.TestCase):

    def refused(self, form):
        with self.assertRaises(TooMany) as caught:
            opened(form)
        self.assertEqual(caught.exception.most, 300)
        self.assertIsInstance(caught.exception, WayError)

    def test_how_many(self):
        inner = ("row", (("row", (A,) * 6), A, ("pick", (A, B)), ("times", B, 0, 1)))
        self.assertEqual(pieces(inner), 14)
        for low, high, many in [(12, 12, 169), (11, 12, 170), (0, 12, 191), (12, None, 170), (0, 1, 15), (1, 1, 14),
                                (1, 3, 46)]:
            form = ("times", inner, low, high)
            self.assertEqual(pieces(opened(form)), many)
            self.assertEqual(pieces(opened_plainly(form)), many)
        for form, left in [(("times", inner, 12, 12), 130), (("times", inner, 0, 12), 108),
                           (("times", inner, 12, None), 129)]:
            for more, told in ((left, 300), (left + 1, 301), (left + 2, 302)):
                whole = ("row", (form,) + (A,) * more)
                self.assertEqual(pieces(opened_plainly(whole)), told)
                if told == 300:
                    self.assertEqual(opened(whole), opened_plainly(whole))
                else:
                    self.refused(whole)

    def test_just_three_hundred_and_one_more(self):
        part = ("row", (("row", (A,) * 7), ("row", (A,) * 7), ("row", (A,) * 6)))
        for low, high, last, many in [(12, 12, 7, 300), (12, 12, 8, 301), (11, 12, 6, 300), (11, 12, 7, 301),
                                      (12, None, 6, 300),
                                      (12, None, 7, 301), (12, 12, 6, 299)]:
            form = ("row", (("times", part, low, high), ("times", A, 0, 1), ("row", (A,) * last)))
            self.assertIs(is_form(form), True)
            told = opened_plainly(form)
            self.assertEqual(pieces(told), many)
            if many <= 300:
                self.assertEqual(opened(form), told)
            else:
                self.refused(form)

    def test_counts_of_a_short_part(self):
        for low in range(13):
            for high in [*range(max(low, 1), 13), None]:
                form = ("times", ("times", ("row", (A, B)), 2, 3), low, high)
                told = opened_plainly(form)
                if pieces(told) <= 300:
                    self.assertEqual(opened(form), told)
                else:
                    self.refused(form)

    def test_far_more_than_can_be_laid_out(self):
        form = A
        for _ in range(200):
            form = ("times", form, 12, 12)
        self.refused(form)
        for text in ("12..12 12..12 12..12 a", "0..12 0..12 0..12 a", "12.. 12.. 12.. a",
                     "1..12 [ 12..12 [ 12..12 a b ] c ]",
                     "[ a 0..1 12..12 12..12 ( a b ) ]", "5..5 10..10 6..6 a", "[ 2..2 a 12..12 12..12 12..12 a ]"):
            self.refused(read_form(text))

    def test_three_hundred_handed_in(self):
        form = ("row", (A,) * 299)
        self.assertEqual(opened(form), form)
        self.assertEqual(opened(("row", (A,) * 297 + (("times", A, 1, 1),))), ("row", (A,) * 298))
        self.assertEqual(opened(("row", (A,) * 296 + (("times", A, 1, 1),) * 3)), ("row", (A,) * 299))
        self.refused(("row", (A,) * 300))
        self.refused(("row", (A,) * 297 + (("times", A, 2, 2),)))
        self.refused(("row", (A,) * 300 + (("times", A, 2, 2),)))

    def test_wide_forms_are_opened(self):
        refused = 0
        for form in WIDE:
            told = opened_plainly(form)
            if pieces(told) <= 300:
                self.assertEqual(opened(form), told)
                with self.assertRaises(TooWide):
                    once(form)
            else:
                self.refused(form)
                refused += 1
        self.assertLess(refused, len(WIDE))


if __name__ == "__main__":
    unittest.main()
