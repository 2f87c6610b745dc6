import unittest

from soleway import alike as alike_file
from soleway.alike import alike, is_alike_paper
from soleway.errors import TooWide, WayError
from soleway.formtexts import read_form
from soleway.machines import least
from soleway.opening import opened
from soleway.readings import takes
from soleway.stands import stands
from paperforms import (FOUR_HUNDRED_LISTS, FOUR_HUNDRED_STANDS, NOT_WIDE, WIDE, bent_lists, forms,
                        is_lists_paper_plainly)
from plainly import A, B, all_stands, rows_up_to, shortlex

EMPTY = ("row", ())
START = ((None,), (None,))
# Each of these takes the same rows by other texts.
SAME = [("2..3 a", "[ a a 0..1 a ]", "( [ a a ] [ a a a ] )", "( [ a a a ] [ a a ] )"),
        ("0.. a", "0.. 0.. a", "( [ ] 1.. a )"),
        ("0.. ( a b )", "0.. ( b a )", "0.. [ 0.. a 0.. b ]", "[ 0.. a 0.. [ b 0.. a ] ]"),
        ("[ ]", "0.. [ ]", "2..3 [ ]"),
        ("1..2 1..2 a", "1..4 a", "( 1..2 a 3..4 a )"), ("2..2 ( a b )", "[ ( a b ) ( b a ) ]", "2..2 ( b a )"),
        ("( 0.. a 0.. 2..2 a )", "0.. a", "( 0.. 3..3 a 0.. a )"),
        ("[ 0.. ( a b ) a ]", "1.. [ 0.. b a ]", "1.. [ 0.. b 1.. a ]"),
        ("( [ a b ] [ a c ] )", "[ a ( b c ) ]", "[ a ( c b ) ]"),
        ("12..12 a", "2..2 2..2 3..3 a", "[ 5..5 a 7..7 a ]")]


class Alike(unittest.TestCase):

    def test_unlike_texts(self):
        for texts in SAME:
            told = [read_form(text) for text in texts]
            for one in told:
                for other in told:
                    word, paper = alike(one, other)
                    self.assertEqual(word, "alike", texts)
                    self.assertIs(type(paper), list)
                    self.assertEqual(paper.count(START), 1)
                    self.assertIs(is_alike_paper(one, other, paper), True, texts)
                    self.assertIs(is_lists_paper_plainly(one, other, paper, True), True, texts)

    def test_parted(self):
        for text, beside, row in [
                ("a", "b", "a"), ("b", "a", "a"), ("0.. a", "1.. a", ""), ("1.. a", "0.. a", ""), ("[ ]", "a", ""),
                ("2..3 a", "2..4 a", "aaaa"), ("0.. ( a b )", "0.. ( a b c )", "c"), ("[ a b ]", "[ a c ]", "ab"),
                ("[ a c ]", "[ a b ]", "ab"), ("( c b )", "( c a )", "a"), ("( [ b b ] a c )", "( [ b b ] c )", "a"),
                ("( b [ a a ] )", "( [ a b ] )", "b"), ("( [ b a ] [ a b ] )", "[ a a ]", "aa"),
                ("0.. 2..2 a", "0.. 3..3 a", "aa"),
                ("0.. 6..6 a", "0.. ( 6..6 a 7..7 a )", "aaaaaaa"), ("[ 0.. ( a b ) a ]", "0.. ( a b )", ""),
                ("( ab b )", "b", None), ("( aa [ a a ] )", "( [ a a ] )", None)]:
            expected = tuple(row) if row is not None else (text.split()[1],)
            self.assertEqual(alike(read_form(text), read_form(beside)), ("parted", expected), (text, beside))
            self.assertEqual(alike(read_form(beside), read_form(text)), ("parted", expected), (text, beside))

    def test_small_forms_by_short_rows(self):
        some = forms()[::23]
        rows = shortlex(rows_up_to("ab", 6))
        taken = [[takes(form, row) for row in rows] for form in some]
        for at, one in enumerate(some):
            for beside, other in enumerate(some):
                told = alike(one, other)
                wrong = [row for row, yes, too in zip(rows, taken[at], taken[beside]) if yes != too]
                self.assertEqual(told[0] == "alike", least(one) == least(other))
                if told[0] == "alike":
                    self.assertEqual(wrong, [])
                    self.assertIs(is_alike_paper(one, other, told[1]), True)
                elif wrong:
                    self.assertEqual(told, ("parted", wrong[0]), (one, other))
                else:
                    self.assertEqual(told[0], "parted")
                    self.assertGreater(len(told[1]), 6)
                    self.assertNotEqual(takes(one, told[1]), takes(other, told[1]))

    def test_papers_have_the_stands_behind_rows(self):
        one, other = read_form("0..1 [ a 0.. ( a b ) ]"), read_form("( [ ] [ a 0.. [ 0.. b a ] 0.. b ] )")
        word, paper = alike(one, other)
        self.assertEqual(word, "alike")
        pairs = [(tuple(stands(one, row)), tuple(stands(other, row))) for row in rows_up_to("ab", 4)]
        self.assertEqual(set(paper), {pair for pair in pairs if pair != ((), ())})
        self.assertEqual(alike(EMPTY, EMPTY), ("alike", [START]))

    def test_least_rows_that_are_long(self):
        one, other = read_form("0.. 12..12 a"), read_form("0.. ( 12..12 a 12..12 11..11 a )")
        self.assertEqual(alike(one, other)[0], "alike")
        other = read_form("( 0.. 12..12 a 12..12 5..5 a [ 0.. 12..12 a 11..11 11..11 a ] )")
        self.assertEqual(alike(one, other), ("parted", ("a",) * 121))

    def test_told_forms(self):
        for text in ("0..12 [ a 0..1 b ]", "2..12 ( a b )", "0..3 0..3 2..2 a", "12.. [ a b 3..4 c ]"):
            form = read_form(text)
            word, paper = alike(form, opened(form))
            self.assertEqual(word, "alike")
            self.assertIs(is_alike_paper(form, opened(form), paper), True)
            self.assertIs(is_alike_paper(opened(form), form, [pair[::-1] for pair in paper]), True)

    def test_by_name_and_where_it_is(self):
        self.assertEqual(alike(one=A, other=A), ("alike", [START, ((((), ()),),) * 2]))
        self.assertEqual(alike(other=A, one=EMPTY), ("parted", ()))
        self.assertIs(is_alike_paper(one=EMPTY, other=EMPTY, thing=[START]), True)
        for function in (alike, is_alike_paper):
            self.assertEqual(function.__module__, alike_file.__name__)

    def test_told_lists_are_the_askers_own(self):
        kept = list(alike(A, A)[1])
        alike(A, A)[1].clear()
        told = alike(A, A)[1]
        told[0] = None
        self.assertEqual(alike(A, A)[1], kept)


class Papers(unittest.TestCase):

    def right(self, one, other, paper, expected):
        kept = list(paper)
        self.assertIs(is_alike_paper(one, other, paper), expected, (one, other, paper))
        self.assertEqual(list(paper), kept)

    def by_the_document(self, one, other, paper):
        self.right(one, other, paper, is_lists_paper_plainly(one, other, paper, True))

    def pairs(self):
        return [(read_form(text), read_form(other)) for texts in SAME[:-1] for text in texts[:2]
                for other in texts[1:3]]

    def test_pairs_left_out_turned_about_and_twice(self):
        for one, other in self.pairs():
            paper = alike(one, other)[1]
            for at, pair in enumerate(paper):
                self.right(one, other, paper[:at] + paper[at + 1:], False)
                self.by_the_document(one, other, paper[:at] + [pair[::-1]] + paper[at + 1:])
                self.by_the_document(one, other, paper + [pair[::-1]])
                self.right(one, other, paper + [pair], True)
                self.right(one, other, [*paper, list(pair)], False)
                self.right(one, other, [*paper, (*pair, ())], False)
                self.right(one, other, [*paper, pair[:1]], False)
            self.right(one, other, paper[::-1], True)
            self.right(one, other, paper + paper, True)
            self.right(one, other, tuple(paper), False)
            self.right(one, other, [], False)

    def test_pairs_turned_about(self):
        one, other = read_form("2..2 a"), read_form("[ a a ]")
        paper = alike(one, other)[1]
        self.right(one, other, paper, True)
        self.right(other, one, paper, False)
        self.right(other, one, [pair[::-1] for pair in paper], True)
        self.right(one, other, [pair[::-1] for pair in paper], False)

    def test_lists_bent(self):
        for one, other in self.pairs():
            paper = alike(one, other)[1]
            for at, (here, beside) in enumerate(paper):
                for bent in bent_lists(here):
                    self.right(one, other, [*paper, (bent, beside)], False)
                    self.right(one, other, paper[:at] + [(bent, beside)] + paper[at + 1:], False)
                for bent in bent_lists(beside):
                    self.right(one, other, [*paper, (here, bent)], False)

    def test_without_stands(self):
        for one, other in self.pairs():
            paper = alike(one, other)[1]
            self.right(one, other, paper + [((), ())], True)
            for here, beside in paper:
                self.right(one, other, paper + [(here, ())], False)
                self.right(one, other, paper + [((), beside)], False)

    def test_stands_and_lists_of_them_that_no_row_comes_to(self):
        one, other = read_form("[ a b ]"), read_form("( [ a b ] [ b b ] [ a b ] )")
        self.right(one, one, [START], False)
        paper = alike(one, one)[1]
        first, last = ((0,), ()), ((1,), ())
        self.right(one, one, paper + [((first, last), (first, last))], True)
        self.right(one, one, paper + [((first, last), (first,))], False)
        self.right(one, one, paper + [((first, last), (last,))], False)
        self.right(one, one, paper + [((first,), (first, last))], False)
        self.right(other, other, [START], False)
        paper = alike(other, other)[1]
        behind_a, behind_b = [tuple(stands(other, (sign,))) for sign in "ab"]
        last = tuple(stands(other, ("a", "b")))
        self.assertEqual(len(behind_a), 2)
        for here in (behind_a, behind_b, behind_a[:1], behind_a[1:], behind_b + behind_a, behind_a[:1] + behind_b,
                     last):
            for beside in (behind_a, behind_b, behind_a[:1], last, last[:1], (None,)):
                here, beside = tuple(sorted(here)), tuple(sorted(beside)) if beside != (None,) else beside
                self.by_the_document(other, other, paper + [(here, beside)])
                self.by_the_document(other, other, paper + [(here, beside), (last[:1], last[:1]), (last, last[:1])])

    def test_any_lists_of_stands(self):
        for one, other in ((read_form("1..2 a"), read_form("[ a 0..1 a ]")),
                           (read_form("0.. ( a b )"), read_form("0.. ( b a )")),
                           (read_form("0.. ( a b )"), read_form("0.. a")), (A, B), (EMPTY, read_form("0..1 a"))):
            pairs = [START]
            lists = []
            for form in (one, other):
                among = all_stands(form)[1:]
                lists.append([(None,), (), tuple(among), *[(stand,) for stand in among]])
            pairs += [(here, beside) for here in lists[0] for beside in lists[1]]
            for at in range(len(pairs)):
                for paper in ([START, pairs[at]], pairs[at:], pairs[:at + 1], pairs[at::3] + [START],
                              pairs[:at] + pairs[at + 1:]):
                    self.by_the_document(one, other, paper)

    def test_truths_are_no_numbers(self):
        one = read_form("[ 0..1 a b ]")
        paper = alike(one, one)[1]
        stand = ((0, 0), (1,))
        for bent in (((False, 0), (1,)), ((0, False), (1,)), ((0, 0), (True,))):
            self.right(one, one, paper + [((stand,), (stand,))], True)
            self.right(one, one, paper + [((bent,), (stand,))], False)
            self.right(one, one, paper + [((stand,), (bent,))], False)

    def test_things_that_are_none(self):
        deep = None
        for _ in range(39):
            deep = (deep, deep)
        lists = []
        for _ in range(39):
            lists = [lists]
        for form in (A, EMPTY, read_form("0..2 ( a b )")):
            paper = alike(form, form)[1]
            for things in ([None], [0], [True], [False], [""], ["ab"], ["a"], [()], [[]], [(None, None)], [((), None)],
                           [(None, ())], [[(None,), (None,)]], [((None,),)], [((None,),) * 3], [([None], [None])],
                           [((None, None), (None, None))], [((None, None), (None,))], [((0,), (0,))],
                           [((False,), (False,))],
                           [("", "")], [("a", "a")], [(("",), ("",))], [deep], [(deep, deep)], [((deep,), (deep,))],
                           lists,
                           [lists], [(((deep, ()),), (None,))], [((((), deep),), (None,))], [1, "a", None]):
                self.right(form, form, things, False)
                self.right(form, form, paper + things, False)
                self.right(form, form, things + paper, False)
            for thing in (None, 0, True, "", "paper", (), tuple(paper), deep):
                self.assertIs(is_alike_paper(form, form, thing), False)


class Wide(unittest.TestCase):

    def test_just_at_the_bounds(self):
        word, paper = alike(FOUR_HUNDRED_LISTS, FOUR_HUNDRED_LISTS)
        self.assertEqual((word, len(paper)), ("alike", 400))
        self.assertIs(is_alike_paper(FOUR_HUNDRED_LISTS, FOUR_HUNDRED_LISTS, paper), True)
        self.assertIs(is_alike_paper(FOUR_HUNDRED_LISTS, FOUR_HUNDRED_LISTS, paper[:-1]), False)
        word, paper = alike(FOUR_HUNDRED_STANDS, read_form("10..10 a"))
        self.assertEqual((word, len(paper)), ("alike", 11))
        self.assertIs(is_alike_paper(FOUR_HUNDRED_STANDS, read_form("10..10 a"), paper), True)

    def test_many_pairs(self):
        one = read_form("( 0.. a 0.. 7..7 12..12 a )")
        other = read_form("( 0.. a 0.. [ 7..7 12..12 a a ] )")
        word, paper = alike(one, other)
        self.assertEqual((word, len(paper)), ("alike", 84 * 85 + 1))
        self.assertIs(is_alike_paper(one, other, paper), True)
        self.assertIs(is_alike_paper(one, other, paper[:5000] + paper[5001:]), False)

    def test_refused_ahead_of_all_else(self):
        for wide in WIDE:
            for form in (A, EMPTY, *NOT_WIDE[:1], wide):
                for one, other in ((wide, form), (form, wide)):
                    with self.assertRaises(TooWide) as caught:
                        alike(one, other)
                    self.assertIsInstance(caught.exception, WayError)
                    for thing in ([], [START], [None], None, 0, "a", [(((0,), (True,)), 1)], {}):
                        with self.assertRaises(TooWide):
                            is_alike_paper(one, other, thing)


if __name__ == "__main__":
    unittest.main()
