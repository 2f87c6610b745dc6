import unittest
from itertools import product

from soleway import once as once_file
from soleway.errors import TooWide, WayError
from soleway.formtexts import read_form
from soleway.machines import least
from soleway.once import is_once_paper, once
from soleway.stands import ending, stands
from soleway.sure import is_single_paper, is_sure_paper, single, sure
from paperforms import (FEW_STANDS_MANY_LISTS, FOUR_HUNDRED_LISTS, FOUR_HUNDRED_STANDS, NO_LISTS_OF_STANDS, NOT_WIDE,
                        ONE_LIST_MORE, ONE_STAND_MORE, WIDE, bent_stands, forms, is_once_paper_plainly)
from plainly import A, B, all_stands, rows_up_to, shortlex

EMPTY = ("row", ())


class Once(unittest.TestCase):

    def test_small_forms(self):
        rows = shortlex(rows_up_to("ab", 5))
        for form in forms():
            told = once(form)
            wrong = [row for row in rows[1:] if len({leaf for leaf, _ in stands(form, row)}) > 1]
            if told[0] == "once":
                self.assertEqual(len(told), 2)
                self.assertEqual(wrong, [], form)
                self.assertIs(type(told[1]), list)
                self.assertIs(is_once_paper_plainly(form, told[1]), True, form)
                self.assertIs(is_once_paper(form, told[1]), True, form)
                continue
            word, row, one, other = told
            self.assertEqual(word, "two")
            self.assertLess(one, other)
            self.assertLessEqual({one, other}, {leaf for leaf, _ in stands(form, row)})
            if wrong:
                self.assertEqual(row, wrong[0], form)
            else:
                self.assertGreater(len(row), 5)

    def test_forms_that_do(self):
        for text in ("a", "[ ]", "[ a b ]", "0.. ( a b )", "[ 0..1 a b ]", "0.. 0.. a", "2..3 1..2 [ a b ]", "12..12 a",
                     "( [ a b ] [ b a ] )", "[ 3.. ( a b ) c ]", "2..2 [ 0.. a b a ]"):
            self.assertEqual(once(read_form(text))[0], "once", text)

    def test_forms_that_do_not(self):
        for text, row, one, other in [
                ("( a a )", "a", (0,), (1,)), ("[ 0..1 a a ]", "a", (0, 0), (1,)),
                ("( [ a b ] [ b a ] [ b c ] )", "b", (1, 0), (2, 0)), ("[ b 0..2 a a ]", "ba", (1, 0), (2,)),
                ("( [ b b ] 0..1 [ a b ] [ a c ] )", "a", (1, 0, 0), (2, 0)), ("[ 2.. a a ]", "aaa", (0, 0), (1,)),
                ("[ 2..3 a a ]", "aaa", (0, 0), (1,)), ("0.. [ 0.. ( a b ) c 0..1 a ]", "ca", (0, 0, 0, 0), (0, 2, 0)),
                ("0..2 [ a 0..1 b 0..1 b ]", "ab", (0, 1, 0), (0, 2, 0))]:
            self.assertEqual(once(read_form(text)), ("two", tuple(row), one, other), text)

    def test_any_two_leaves(self):
        told = once(read_form("[ b ( a a a ) ]"))
        self.assertEqual(told[:2], ("two", ("b", "a")))
        self.assertIn(told[2:], [((1, 0), (1, 1)), ((1, 0), (1, 2)), ((1, 1), (1, 2))])

    def test_the_shorter_first_and_then_as_python_sorts(self):
        self.assertEqual(once(read_form("( [ a b ( c c ) ] [ b ( c c ) ] )"))[1], ("b", "c"))
        self.assertEqual(once(read_form("( [ b ( a a ) ] [ a ( c c ) ] [ a ( b b ) ] )"))[1], ("a",))
        self.assertEqual(once(read_form("( [ b ( a a ) ] [ a ( ( c c ) ( b b ) ) ] )"))[1], ("a", "b"))
        self.assertEqual(once(read_form("( [ b ( a a ) ] [ ab ( a a ) ] )"))[1], ("ab", "a"))

    def test_by_name(self):
        self.assertEqual(once(form=EMPTY), ("once", [(None, None)]))
        self.assertIs(is_once_paper(form=EMPTY, thing=[(None, None)]), True)

    def test_told_papers_are_the_askers_own(self):
        form = read_form("0..2 [ a b ]")
        kept = list(once(form)[1])
        once(form)[1].clear()
        self.assertEqual(once(form)[1], kept)
        self.assertIsNot(once(form)[1], once(form)[1])

    def test_defined_there(self):
        for function in (once, is_once_paper):
            self.assertEqual(function.__module__, once_file.__name__)


class Papers(unittest.TestCase):

    def right(self, form, paper, expected):
        kept = list(paper)
        self.assertIs(is_once_paper(form, paper), expected, (form, paper))
        self.assertEqual(paper, kept)

    def test_small_papers(self):
        one = ((), ())
        self.right(EMPTY, [(None, None)], True)
        self.right(A, [(None, None), (one, one)], True)
        self.right(A, [(one, one), (None, None)], True)
        self.right(A, [(None, None)], False)
        self.right(A, [(one, one)], False)
        self.right(A, [], False)
        self.right(EMPTY, [], False)

    def test_told_papers_bent(self):
        for form in forms()[::6]:
            told = once(form)
            if told[0] == "two":
                continue
            paper = told[1]
            for at in range(len(paper)):
                self.right(form, paper[:at] + paper[at + 1:], False)
                self.right(form, paper[:at] + [paper[at][::-1]] + paper[at + 1:], True)
                self.right(form, paper[:at] + [paper[at][::-1]] + paper[at:], True)
                self.right(form, paper + [paper[at], list(paper[at])], False)
                self.right(form, [*paper, (*paper[at], None)], False)
                self.right(form, [*paper, paper[at][:1]], False)
                for stand in bent_stands(paper[at][0]):
                    self.right(form, [*paper, (paper[at][0], stand)], False)
                    self.right(form, [*paper, (stand, paper[at][0])], False)
            self.right(form, paper + paper, True)
            self.right(form, paper[::-1], True)
            self.right(form, [pair[::-1] for pair in paper], True)

    def test_any_pairs(self):
        for form in forms()[::9]:
            among = all_stands(form)[:6]
            pairs = list(product(among, among))
            told = once(form)
            for at in range(0, len(pairs), 3):
                for paper in (pairs[at:], pairs[:at] + pairs[at + 1:], [(None, None)] + pairs[at:at + 4],
                              pairs[at:at + 2] + (told[1] if told[0] == "once" else [(None, None)])):
                    self.right(form, paper, is_once_paper_plainly(form, paper))

    def test_more_than_needed(self):
        form = read_form("0..3 [ a 0..1 b ]")
        paper = once(form)[1]
        among = all_stands(form)
        more = [(one, other) for one, other in product(among, among)]
        self.assertIs(is_once_paper_plainly(form, more), True)
        self.right(form, more, True)
        self.right(form, paper + more, True)
        form = read_form("1..2 a")
        one, two = ((0,), (1,)), ((0,), (2,))
        self.right(form, [(None, None), (one, one), (two, two), (one, two)], True)
        self.right(form, [(None, None), (one, one), (two, two), (None, two)], True)
        self.right(form, [(None, None), (one, one), (two, two), (None, one)], False)
        self.right(form, [(None, None), (one, one), (two, two), (None, one), (one, two)], True)
        self.right(form, [(None, None), (one, one), (two, two), (None, one), (two, one)], True)

    def test_pairs_that_no_row_comes_to(self):
        form = read_form("( [ a b ] [ c b ] )")
        paper = once(form)[1]
        self.right(form, paper + [(((0, 0), ()), ((0, 1), ()))], True)
        self.right(form, paper + [(((0, 0), ()), ((1, 0), ()))], False)
        self.right(form, paper + [(((0, 0), ()), ((1, 0), ())), (((0, 1), ()), ((1, 1), ()))], False)
        self.right(form, paper + [(None, ((0, 0), ()))], True)

    def test_forms_that_do_not_tell_places_at_once_have_none(self):
        for text in ("( a a )", "[ 0..1 a a ]", "[ 2..3 a a ]"):
            form = read_form(text)
            among = all_stands(form)
            self.right(form, [(None, None)], False)
            self.right(form, list(product(among, among)), False)

    def test_numbers_that_are_truths(self):
        form = read_form("[ 1..2 a b ]")
        paper = once(form)[1]
        self.right(form, paper, True)
        for bent in (((0, 0), (True,)), ((False, 0), (1,)), ((0, False), (1,)), ((True,), ())):
            self.right(form, paper + [(bent, bent)], False)
            self.right(form, [(bent if stand == bent else stand, other) for stand, other in paper], False)

    def test_numbers_beyond(self):
        for text, most in [("2..3 a", 3), ("2.. a", 2), ("0.. a", 1), ("12.. a", 12), ("1..1 a", 1), ("0..12 a", 12)]:
            form = read_form(text)
            paper = once(form)[1]
            for number in (most + 1, 0, -1, 13, 100):
                beyond = ((0,), (number,))
                self.right(form, paper + [(beyond, beyond)], False)
            last = ((0,), (most,))
            self.right(form, paper + [(last, last)], True)
        form = read_form("3.. 0..1 a")
        paper = once(form)[1]
        self.right(form, paper + [(((0, 0), (1, 1)),) * 2], True)
        self.right(form, paper + [(((0, 0), (2, 1)),) * 2], False)
        form = read_form("3..4 0..1 a")
        paper = once(form)[1]
        self.right(form, paper + [(((0, 0), (4, 1)),) * 2], True)
        self.right(form, paper + [(((0, 0), (5, 1)),) * 2], False)

    def test_things_that_are_none(self):
        deep = "x"
        for _ in range(39):
            deep = (deep, deep)
        lists = [deep]
        for _ in range(38):
            lists = [lists]
        for form in (A, EMPTY, read_form("0..2 ( a b )")):
            paper = once(form)[1]
            for things in (*NO_LISTS_OF_STANDS, [None], [None, None], [deep], [(deep, deep)], [(None, deep)], lists,
                           [((deep, ()), None)], [(((), deep), None)], [[None, None]], [(None,)], [(None, None, None)],
                           ["ab"], [("a", "b")], [(0, 0)], [()]):
                self.right(form, things, False)
                self.right(form, paper + things, False)
                self.right(form, things + paper, False)


class Wide(unittest.TestCase):

    def test_just_at_the_bounds(self):
        told = once(FOUR_HUNDRED_STANDS)
        self.assertEqual(told[:2], ("two", ("a",)))
        told = once(FOUR_HUNDRED_LISTS)
        self.assertEqual(told[0], "once")
        self.assertEqual(len(set(told[1])), 400)
        self.assertIs(is_once_paper(FOUR_HUNDRED_LISTS, told[1]), True)
        self.assertIs(is_once_paper(FOUR_HUNDRED_LISTS, told[1][:-1]), False)
        for form in NOT_WIDE:
            self.assertIs(is_once_paper(form, [None]), False)
            self.assertIs(is_sure_paper(form, [0]), False)
            self.assertIs(is_single_paper(form, [None]), False)
            self.assertIn(sure(form)[0], ("sure", "unsure"))
            self.assertIn(single(form)[0], ("single", "double"))
            self.assertIsInstance(least(form), tuple)
            self.assertIsNone(ending(form, ("z",)))

    def test_the_bounds_are_what_they_are_said_to_be(self):
        self.assertEqual(len(all_stands(FOUR_HUNDRED_STANDS)), 401)
        self.assertEqual(len(all_stands(ONE_STAND_MORE)), 402)
        self.assertEqual(len(all_stands(FOUR_HUNDRED_LISTS)), 400)
        self.assertEqual(len(all_stands(ONE_LIST_MORE)), 401)
        self.assertLess(len(all_stands(FEW_STANDS_MANY_LISTS)), 30)
        rows = [("a",) * many for many in range(1, 11)] + [("a",) * 10 + ("b",)]
        self.assertTrue(all(stands(ONE_STAND_MORE, row) for row in rows))
        row = ("a", "b", "c") * 132 + ("d",) * 4
        for form, most in ((FOUR_HUNDRED_LISTS, 399), (ONE_LIST_MORE, 400)):
            lengths = {*range(0, most + 1, 7), most}
            lists = {tuple(stands(form, row[:many])) for many in lengths}
            self.assertEqual({len(told) for told in lists}, {1})
            self.assertEqual(len(lists), len(lengths))

    def test_told_with_lists_that_are_few(self):
        for text, many in [("[ 0.. ( a b ) a ( a b ) ( a b ) ( a b ) ( a b ) ( a b ) ]", 64), ("0..12 0..12 a", 145)]:
            self.assertEqual(len(least(read_form(text))), many)

    def test_refused(self):
        for form in WIDE:
            for told in (once, sure, single, least):
                with self.assertRaises(TooWide):
                    told(form)
            for row in ((), ("a",), ("z",), ("zz", "a") * 30):
                with self.assertRaises(TooWide):
                    ending(form, row)

    def test_ahead_of_all_else(self):
        for form in WIDE:
            for is_paper in (is_once_paper, is_sure_paper, is_single_paper):
                for thing in ([], [None], [(None, None)], [(None, None, False)], [0, "a", [[]]], [(((0,), (True,)), 1)]):
                    with self.assertRaises(TooWide) as caught:
                        is_paper(form, thing)
                    self.assertIsInstance(caught.exception, WayError)


if __name__ == "__main__":
    unittest.main()
