import unittest
from itertools import product

from soleway import sure as sure_file
from soleway.formtexts import read_form
from soleway.once import once
from soleway.readings import all_readings, how_many, is_reading
from soleway.stands import behind, may_end, stands, steps
from soleway.sure import is_single_paper, is_sure_paper, single, sure
from paperforms import (FOUR_HUNDRED_LISTS, FOUR_HUNDRED_STANDS, NO_LISTS_OF_STANDS, bent_stands, forms,
                        is_single_paper_plainly, is_sure_paper_plainly)
from plainly import A, B, all_stands, rows_up_to, run_of, shortlex

EMPTY = ("row", ())
LEAF = ("leaf",)
TEXTS = ("a", "[ ]", "0.. ( a b )", "2..3 [ a 0..1 b ]", "3..4 0..1 a", "( a a )", "1..2 1..2 a", "( [ a b ] [ a c ] )",
         "[ 0..1 a a ]", "0.. 0.. a", "12.. [ a b ]", "2..2 2..3 2..2 a", "[ 0.. ( a b ) a b ]", "0..2 [ 0..2 a b ]")


def runs_along(form, row):
    """All runs along a row, as pairs of a list of steps and the last stand."""
    told = [([], None)]
    for sign in row:
        told = [([*run, step], behind(form, stand, step)) for run, stand in told for step in steps(form, stand, sign)]
    return told


class Sure(unittest.TestCase):

    def test_small_forms(self):
        rows = shortlex(rows_up_to("ab", 4))
        for form in forms():
            told = sure(form)
            wrong = [row for row in rows if len(runs_along(form, row)) > 1]
            if told[0] == "sure":
                self.assertEqual(len(told), 2)
                self.assertEqual(wrong, [], form)
                self.assertIs(type(told[1]), list)
                self.assertIs(is_sure_paper_plainly(form, told[1]), True, form)
                self.assertIs(is_sure_paper(form, told[1]), True, form)
                continue
            word, row, one, other = told
            self.assertEqual(word, "unsure")
            among = [run for run, _ in runs_along(form, row)]
            self.assertNotEqual(one, other)
            self.assertEqual([type(one), type(other)], [list, list])
            self.assertIn(one, among)
            self.assertIn(other, among)
            if wrong:
                self.assertEqual(row, wrong[0], form)
            else:
                self.assertGreater(len(row), 4)

    def test_sure_ones(self):
        for text in ("a", "[ ]", "0.. ( a b )", "2..3 [ a 0..1 b ]", "3..4 0..1 a", "2..2 2..2 2..2 a", "12.. [ a b ]",
                     "0..3 [ 0..3 a b ]", "0.. 0..1 a"):
            self.assertEqual(sure(read_form(text))[0], "sure", text)

    def test_at_once_but_not_sure(self):
        leaf = (0, 0)
        for text, many, ways in [("1..2 1..2 a", 2, [(leaf, ()), (leaf, (0,))]),
                                 ("2..3 2..3 a", 3, [(leaf, ()), (leaf, (0,))]),
                                 ("0.. 0.. a", 2, [(leaf, ()), (leaf, (0,))]),
                                 ("1..2 3..4 a", 4, [(leaf, ()), (leaf, (0,))])]:
            form = read_form(text)
            self.assertEqual(once(form)[0], "once")
            word, row, one, other = sure(form)
            self.assertEqual((word, row), ("unsure", ("a",) * many), text)
            ahead = [(leaf, None)] + [(leaf, (0,))] * (many - 2)
            self.assertEqual(sorted([one, other], key=repr), [ahead + [way] for way in ways], text)

    def test_neither(self):
        self.assertEqual(sure(read_form("( a a )")), ("unsure", ("a",), [((0,), None)], [((1,), None)]))
        told = sure(read_form("[ b 0..2 ( a c ) a ]"))
        self.assertEqual(told[:2], ("unsure", ("b", "a")))
        self.assertEqual(sorted(told[2:], key=repr),
                         [[((0,), None), ((1, 0, 0), None)], [((0,), None), ((2,), None)]])
        told = sure(read_form("( [ b ( a a ) ] [ ab ( a a ) ] )"))
        self.assertEqual(told[1], ("ab", "a"))

    def test_told_lists_are_the_askers_own(self):
        form = read_form("0..2 [ a b ]")
        kept = list(sure(form)[1])
        sure(form)[1].clear()
        self.assertEqual(sure(form)[1], kept)
        form = read_form("0..2 0..2 a")
        sure(form)[2].clear()
        sure(form)[3].append(1)
        self.assertEqual([len(run) for run in sure(form)[2:]], [2, 2])
        form = A
        kept = list(single(form)[1])
        single(form)[1].clear()
        self.assertEqual(single(form)[1], kept)

    def test_by_name(self):
        self.assertEqual(sure(form=EMPTY), ("sure", [None]))
        self.assertIs(is_sure_paper(form=EMPTY, thing=[None]), True)
        self.assertEqual(single(form=EMPTY), ("single", [(None, None, False)]))
        self.assertIs(is_single_paper(form=EMPTY, thing=[(None, None, False)]), True)

    def test_defined_there(self):
        for function in (sure, single, is_sure_paper, is_single_paper):
            self.assertEqual(function.__module__, sure_file.__name__)


class SurePapers(unittest.TestCase):

    def right(self, form, paper, expected):
        kept = list(paper)
        self.assertIs(is_sure_paper(form, paper), expected, (form, paper))
        self.assertEqual(paper, kept)

    def test_told_papers_bent(self):
        for form in forms()[::4]:
            told = sure(form)
            if told[0] == "unsure":
                continue
            paper = told[1]
            for at, stand in enumerate(paper):
                self.right(form, paper[:at] + paper[at + 1:], False)
                self.right(form, paper + [stand], True)
                for bent in bent_stands(stand):
                    self.right(form, paper + [bent], False)
                    self.right(form, [bent] + paper, False)
                    self.right(form, paper[:at] + [bent] + paper[at + 1:], False)
            self.right(form, paper[::-1], True)
            self.right(form, paper + all_stands(form), True)

    def test_any_stands(self):
        for form in forms()[::3] + [read_form(text) for text in TEXTS]:
            among = all_stands(form)
            for paper in ([], [None], among, among[1:], among[:-1], among + among, among[::2], among[1::2], among[:3]):
                self.right(form, paper, is_sure_paper_plainly(form, paper))

    def test_truths_are_no_numbers(self):
        form = read_form("0..1 [ a b ]")
        self.right(form, [None, ((0, 0), (1,)), ((0, 1), (1,))], True)
        self.right(form, [None, ((0, 0), (1,)), ((0, 1), (True,))], False)
        self.right(form, [None, ((0, 0), (1,)), ((0, True), (1,))], False)
        self.right(form, [None, ((0, False), (1,)), ((0, 1), (1,))], False)

    def test_things_that_are_none(self):
        for form in (A, EMPTY, read_form("0..2 ( a b )")):
            paper = sure(form)[1]
            for things in (*NO_LISTS_OF_STANDS, [(None, None)], [[None]], [(None, None, False)]):
                self.right(form, things, False)
                self.right(form, paper + things, False)


class Single(unittest.TestCase):

    def test_small_forms(self):
        rows = shortlex(rows_up_to("ab", 5))
        for form in forms():
            told = single(form)
            wrong = [row for row in rows if how_many(form, row) > 1]
            if told[0] == "single":
                self.assertEqual(len(told), 2)
                self.assertEqual(wrong, [], form)
                self.assertIs(type(told[1]), list)
                self.assertIs(is_single_paper(form, told[1]), True, form)
                if len(told[1]) < 20:
                    self.assertIs(is_single_paper_plainly(form, told[1]), True, form)
                continue
            word, row, one, other = told
            self.assertEqual(word, "double")
            self.two_readings(form, row, one, other)
            if wrong:
                self.assertEqual(row, wrong[0], form)
            else:
                self.assertGreater(len(row), 5)

    def two_readings(self, form, row, one, other):
        self.assertNotEqual(one, other)
        self.assertIs(is_reading(form, row, one), True, (form, row, one))
        self.assertIs(is_reading(form, row, other), True, (form, row, other))

    def test_single_but_not_at_once(self):
        for text in ("( [ a b ] [ a c ] )", "[ 0..1 a a ]", "[ 0.. ( a b ) a ( a b ) b ]", "( [ a a ] [ a b a ] )"):
            form = read_form(text)
            self.assertEqual(single(form)[0], "single", text)
            self.assertEqual(once(form)[0], "two", text)
            self.assertEqual(sure(form)[0], "unsure", text)

    def test_double(self):
        maybe = ("times", (LEAF,))
        for text, row, expected in [
                ("( a a )", "a", [("pick", 0, LEAF), ("pick", 1, LEAF)]),
                ("[ 0..1 a 0..1 a ]", "a", [("row", ((0, maybe),)), ("row", ((1, maybe),))]),
                ("[ b ( 0..1 a [ 0..1 a ] ) ]", "ba",
                 [("row", ((0, LEAF), (1, ("pick", 0, maybe)))), ("row", ((0, LEAF), (1, ("pick", 1, ("row", ((0, maybe),))))))]),
                ("1..2 1..2 a", "aa", [("times", (("times", (LEAF, LEAF)),)), ("times", (maybe, maybe))]),
                ("( 0.. [ a a ] 0.. [ a a a ] )", "aaaaaa",
                 [("pick", 0, ("times", (("row", ((0, LEAF), (1, LEAF))),) * 3)),
                  ("pick", 1, ("times", (("row", ((0, LEAF), (1, LEAF), (2, LEAF))),) * 2))])]:
            form = read_form(text)
            told = single(form)
            self.assertEqual(told[:2], ("double", tuple(row)), text)
            self.assertEqual(sorted(told[2:], key=repr), sorted(expected, key=repr), text)

    def test_two_readings_of_one_row_of_leaves(self):
        form = read_form("2..2 1..2 a")
        word, row, one, other = single(form)
        self.assertEqual((word, row), ("double", ("a",) * 3))
        self.assertEqual({one, other}, {("times", (("times", (LEAF,)), ("times", (LEAF, LEAF)))),
                                        ("times", (("times", (LEAF, LEAF)), ("times", (LEAF,))))})
        self.assertEqual(once(form)[0], "once")
        self.assertEqual(sure(form)[0], "unsure")

    def test_the_shorter_first_and_then_as_python_sorts(self):
        self.assertEqual(single(read_form("( [ a c ] [ a c ] b b )"))[1], ("b",))
        self.assertEqual(single(read_form("( [ b a ] [ b a ] [ a c ] [ a c ] [ a b ] [ a b ] )"))[1], ("a", "b"))
        # The lesser row ends at stands that a greater one has gone by first.
        self.assertEqual(single(read_form("( [ ( b b ) a ] [ a c ] [ a ( b b ) ] )"))[1], ("a", "b"))
        form = read_form("( [ ( a ab ) a c ] [ ( a ab ) b a ] [ a b b ] [ ( a ab ) b b ] )")
        self.assertEqual(single(form)[1], ("a", "b", "b"))

    def test_several_runs_to_one_group(self):
        # Of the stands behind one row some lead on by a lesser sign than those that were found ahead of them.
        form = read_form("( [ a b ( [ b c ] [ b c ] ) ] [ a a ( [ c d ] [ c d ] ) ] )")
        self.assertEqual(single(form)[1], ("a", "a", "c", "d"))
        form = read_form("( [ a b c c ] [ a b c c ] [ a a d d ] [ a a d d ] )")
        self.assertEqual(single(form)[1], ("a", "a", "d", "d"))

    def test_long_double_rows(self):
        for text, many in [("( 0.. 12..12 a [ a 0.. 11..11 a ] )", 12), ("( 1.. 12..12 a 1.. 11..11 a )", 132),
                           ("( 1.. [ 7..7 a ] 1.. 11..11 a [ a a 1.. 5..5 a ] )", 7)]:
            form = read_form(text)
            word, row, one, other = single(form)
            self.assertEqual((word, row), ("double", ("a",) * many), text)
            self.two_readings(form, row, one, other)
            self.assertTrue(all(how_many(form, ("a",) * fewer) < 2 for fewer in range(many)))

    def test_the_row_without_signs_has_one_reading(self):
        for text in ("( [ ] [ ] )", "[ [ ] [ ] ]", "0.. [ ]", "( 0..1 a [ ] )"):
            self.assertEqual(single(read_form(text))[0], "single")

    def test_at_the_bound(self):
        word, row, one, other = single(FOUR_HUNDRED_STANDS)
        self.assertEqual((word, row), ("double", ("a",) * 10))
        self.two_readings(FOUR_HUNDRED_STANDS, row, one, other)
        told = single(FOUR_HUNDRED_LISTS)
        self.assertEqual(told[0], "single")
        self.assertIs(is_single_paper(FOUR_HUNDRED_LISTS, told[1]), True)
        self.assertIs(is_single_paper(FOUR_HUNDRED_LISTS, told[1][:-1]), False)
        told = sure(FOUR_HUNDRED_LISTS)
        self.assertEqual(told[0], "sure")
        self.assertEqual(len(told[1]), 400)
        self.assertIs(is_sure_paper(FOUR_HUNDRED_LISTS, told[1]), True)

    def test_readings_are_those_of_runs(self):
        for form in forms()[::5]:
            told = single(form)
            if told[0] == "double" and len(told[1]) < 6:
                self.assertLessEqual(set(told[2:]), set(all_readings(form, told[1], 1000)))
                runs = [[step for step, _ in run_of(form, reading)] for reading in told[2:]]
                ends = [run for run, stand in runs_along(form, told[1]) if may_end(form, stand)]
                self.assertIn(runs[0], ends)
                self.assertIn(runs[1], ends)


class SinglePapers(unittest.TestCase):

    def right(self, form, paper, expected):
        kept = list(paper)
        self.assertIs(is_single_paper(form, paper), expected, (form, paper))
        self.assertEqual(paper, kept)

    def test_told_papers_bent(self):
        for form in forms()[::9] + [read_form(text) for text in TEXTS[:4]]:
            told = single(form)
            if told[0] == "double" or len(told[1]) > 12:
                continue
            paper = told[1]
            for at, (one, other, unlike) in enumerate(paper):
                rest = paper[:at] + paper[at + 1:]
                self.right(form, rest, False)
                self.right(form, rest + [(other, one, unlike)], True)
                self.right(form, paper + [(other, one, unlike)], True)
                self.right(form, rest + [(one, other, not unlike)], False)
                for bent in ([one, other, unlike], (one, other), (one, other, unlike, unlike), (unlike, one, other),
                             (one, other, None), (one, other, int(unlike)), (one, other, str(unlike)),
                             (one, other, (unlike,))):
                    self.right(form, paper + [bent], False)
                    self.right(form, rest + [bent], False)
                for stand in bent_stands(one):
                    self.right(form, paper + [(stand, other, unlike)], False)
                    self.right(form, paper + [(one, stand, unlike)], False)
            self.right(form, paper + paper, True)
            self.right(form, paper[::-1], True)

    def test_small_papers(self):
        one = ((), ())
        start = (None, None, False)
        self.right(EMPTY, [start], True)
        self.right(EMPTY, [], False)
        self.right(A, [start, (one, one, False)], True)
        self.right(A, [start], False)
        self.right(A, [(one, one, False)], False)
        self.right(A, [start, (one, one, False), (one, one, True)], False)
        self.right(A, [start, (one, one, False), (None, one, True), (one, None, False)], True)
        self.right(A, [start, (one, one, False), (None, None, True)], False)
        self.right(EMPTY, [start, (None, None, True)], False)

    def test_unlike_stays(self):
        form = read_form("( [ a b ] [ a c ] )")
        first, second = ((0, 0), ()), ((1, 0), ())
        last, other = ((0, 1), ()), ((1, 1), ())
        paper = [(None, None, False), (first, first, False), (second, second, False), (last, last, False),
                 (other, other, False), (first, second, True)]
        self.right(form, paper, True)
        self.right(form, paper[:-1], False)
        self.right(form, paper[:-1] + [(first, second, False)], False)
        self.right(form, paper[:-1] + [(second, first, True)], True)
        self.right(form, paper + [(first, first, True)], False)
        self.right(form, paper + [(first, second, False)], True)
        self.right(form, paper + [(first, last, True)], True)
        self.right(form, paper + [(last, other, False)], True)
        self.right(form, paper + [(last, other, True)], False)

    def test_stands_both_of_which_may_end(self):
        form = read_form("( a a )")
        one, other = ((0,), ()), ((1,), ())
        paper = [(None, None, False), (one, one, False), (other, other, False)]
        self.right(form, paper, False)
        self.right(form, paper + [(one, other, True)], False)
        self.right(form, paper + [(one, other, False)], False)

    def test_any_triples(self):
        for form in forms()[::7] + [read_form(text) for text in TEXTS]:
            among = all_stands(form)[:5]
            triples = list(product(among, among, (False, True)))
            told = single(form)
            base = told[1] if told[0] == "single" else [(None, None, False)]
            for at in range(0, len(triples), 5):
                for paper in (triples[at:], triples[:at] + triples[at + 1:], base + triples[at:at + 1],
                              triples[at + 1:at + 4] + base, base[:at] + base[at + 1:]):
                    self.right(form, paper, is_single_paper_plainly(form, paper))

    def test_things_that_are_none(self):
        for form in (A, EMPTY, read_form("0..2 ( a b )")):
            paper = single(form)[1]
            for things in (*NO_LISTS_OF_STANDS, [None], [(None, None)], [(None, None, 0)], [(None, None, None)],
                           [[None, None, False]], [(None, None, False, False)], ["abc"], [("a", "b", True)],
                           [(0, 0, False)], [((), (), True)], [(None, (), False)], [(None, None, "False")]):
                self.right(form, things, False)
                self.right(form, paper + things, False)
                self.right(form, things + paper, False)


class SureIsSingleAndAtOnce(unittest.TestCase):

    def test_small_forms(self):
        seen = set()
        for form in forms() + [read_form(text) for text in TEXTS]:
            told = (once(form)[0], single(form)[0])
            self.assertEqual(sure(form)[0] == "sure", told == ("once", "single"), form)
            seen.add(told)
        self.assertEqual(len(seen), 4 if ("once", "double") in seen else 3)
        self.assertEqual(seen, {("once", "single"), ("once", "double"), ("two", "single"), ("two", "double")})


if __name__ == "__main__":
    unittest.main()
