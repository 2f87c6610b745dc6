import unittest

from soleway import within as within_file
from soleway.alike import alike
from soleway.errors import TooWide
from soleway.formtexts import read_form
from soleway.machines import is_machine, least, least_of, runs
from soleway.readings import takes
from soleway.stands import may_come
from soleway.within import both, either, endings, is_within_paper, within
from paperforms import FOUR_HUNDRED_LISTS, NOT_WIDE, WIDE, bent_lists, forms, is_lists_paper_plainly
from plainly import A, B, all_stands, rows_up_to, shortlex

EMPTY = ("row", ())
START = ((None,), (None,))
ONLY_EMPTY = ((True, ()),)
# The one of each pair lies within the other, not the other way round.
INNER = [("[ ]", "0..1 a"), ("a", "0..1 a"), ("a", "( a b )"), ("2..3 a", "1..4 a"), ("0.. 2..2 a", "0.. a"),
         ("0.. 6..6 a", "0.. 3..3 a"), ("[ 0.. a b ]", "[ 0.. ( a b ) b ]"),
         ("( [ a b ] [ a c ] )", "[ a 0.. ( b c ) ]"),
         ("( a a )", "2..3 0..1 a"), ("2..2 ( [ a b ] b )", "0.. ( a b )"), ("12..12 a", "0.. 4..4 a")]


class Within(unittest.TestCase):

    def test_within_and_not_the_other_way_round(self):
        for text, outer in INNER:
            one, other = read_form(text), read_form(outer)
            word, paper = within(one, other)
            self.assertEqual(word, "within", text)
            self.assertIs(type(paper), list)
            self.assertIs(is_within_paper(one, other, paper), True, text)
            self.assertIs(is_lists_paper_plainly(one, other, paper, False), True, text)
            told = within(other, one)
            self.assertEqual(told[0], "beyond")
            self.assertIs(takes(other, told[1]) and not takes(one, told[1]), True)

    def test_beyond(self):
        for text, other, row in [("a", "b", "a"), ("0..1 a", "a", ""), ("0..1 a", "0..1 b", "a"),
                                 ("( [ ] b a )", "[ ]", "a"),
                                 ("2..4 a", "2..3 a", "aaaa"), ("0.. ( a b )", "0.. a", "b"),
                                 ("( [ b b ] c )", "c", "bb"),
                                 ("( [ b b ] [ a c ] )", "( a b )", "ac"), ("0.. 2..2 a", "0.. 3..3 a", "aa"),
                                 ("0.. ( a b )", "( 1.. a 1.. b )", ""), ("1.. ( a b )", "( 1.. a 1.. b )", "ab"),
                                 ("[ a a b ]", "[ a a ]", "aab"), ("[ a a ]", "[ a a b ]", "aa")]:
            self.assertEqual(within(read_form(text), read_form(other)), ("beyond", tuple(row)), (text, other))
        self.assertEqual(within(read_form("( aa [ a b ] )"), A), ("beyond", ("aa",)))

    def test_least_rows_that_are_long(self):
        other = read_form("( [ 0.. 12..12 a 0..11 a ] [ 12..12 7..7 a a ] )")
        self.assertEqual(within(read_form("0.. a"), other)[0], "within")
        self.assertEqual(within(read_form("1.. 11..11 a"), read_form("1.. ( 12..12 a 1..10 a )"))[0], "within")
        self.assertEqual(within(read_form("0.. 11..11 a"), read_form("0..8 11..11 a")), ("beyond", ("a",) * 99))

    def test_small_forms_by_short_rows(self):
        some = forms()[7::27]
        rows = shortlex(rows_up_to("ab", 6))
        taken = [[takes(form, row) for row in rows] for form in some]
        for at, one in enumerate(some):
            for beside, other in enumerate(some):
                told = within(one, other)
                wrong = [row for row, yes, too in zip(rows, taken[at], taken[beside]) if yes and not too]
                if told[0] == "within":
                    self.assertEqual(wrong, [])
                    self.assertIs(is_within_paper(one, other, told[1]), True)
                elif wrong:
                    self.assertEqual(told, ("beyond", wrong[0]), (one, other))
                else:
                    self.assertEqual(told[0], "beyond")
                    self.assertGreater(len(told[1]), 6)
                    self.assertIs(takes(one, told[1]) and not takes(other, told[1]), True)
                self.assertEqual(alike(one, other)[0] == "alike", told[0] == within(other, one)[0] == "within")

    def test_by_name_and_where_it_is(self):
        self.assertEqual(within(other=EMPTY, one=A), ("beyond", ("a",)))
        self.assertEqual(within(one=EMPTY, other=A), ("beyond", ()))
        self.assertIs(is_within_paper(one=EMPTY, other=EMPTY, thing=[START]), True)
        self.assertEqual(both(one=A, other=A), least(A))
        self.assertEqual(either(one=A, other=A), least(A))
        self.assertEqual(endings(form=A, row=()), least(A))
        for function in (within, is_within_paper, both, either, endings):
            self.assertEqual(function.__module__, within_file.__name__)

    def test_told_lists_are_the_askers_own(self):
        form = read_form("0..1 a")
        kept = list(within(EMPTY, form)[1])
        within(EMPTY, form)[1].append(1)
        within(EMPTY, form)[1][0] = 0
        self.assertEqual(within(EMPTY, form)[1], kept)


class Papers(unittest.TestCase):

    def right(self, one, other, paper, expected):
        kept = list(paper)
        self.assertIs(is_within_paper(one, other, paper), expected, (one, other, paper))
        self.assertEqual(paper, kept)

    def by_the_document(self, one, other, paper):
        self.right(one, other, paper, is_lists_paper_plainly(one, other, paper, False))

    def pairs(self):
        told = [(read_form(text), read_form(other)) for text, other in INNER[:-1]]
        return told + [(form, form) for form in (EMPTY, A, read_form("0.. [ a 0..1 b ]"))]

    def test_told_papers_bent(self):
        for one, other in self.pairs():
            paper = within(one, other)[1]
            for at, pair in enumerate(paper):
                self.right(one, other, paper[:at] + paper[at + 1:], False)
                self.by_the_document(one, other, paper[:at] + [pair[::-1]] + paper[at + 1:])
                self.by_the_document(one, other, paper + [pair[::-1]])
                self.right(one, other, paper + [pair], True)
                for more in (list(pair), (*pair, ()), pair[:1], pair[0], None, (pair,)):
                    self.right(one, other, [*paper, more], False)
            self.right(one, other, paper[::-1] + paper, True)
            self.right(one, other, [], False)

    def test_lists_bent(self):
        for one, other in self.pairs():
            paper = within(one, other)[1]
            for here, beside in paper:
                for bent in bent_lists(here):
                    self.right(one, other, [*paper, (bent, beside)], False)
                for bent in bent_lists(beside):
                    self.right(one, other, [*paper, (here, bent)], False)

    def test_without_stands(self):
        for one, other in self.pairs():
            paper = within(one, other)[1]
            for here, beside in [*paper, ((), ())]:
                self.right(one, other, paper + [((), beside)], True)
            for here, beside in paper:
                self.right(one, other, paper + [(here, ())], False)

    def test_what_the_other_may_and_the_one_not(self):
        # The other may end, and a sign leads on from it, where the one may not; no pair is asked for that.
        one, other = read_form("[ a a ]"), read_form("[ 0..3 a 0..1 b ]")
        paper = within(one, other)[1]
        self.assertEqual(len(paper), 3)
        self.right(one, other, paper, True)
        self.right(one, other, [pair[::-1] for pair in paper], False)
        self.right(other, one, [pair[::-1] for pair in paper], False)

    def test_any_lists_of_stands(self):
        for one, other in ((read_form("1..2 a"), read_form("[ a 0..1 a ]")), (read_form("a"), read_form("0.. a")),
                           (read_form("0.. a"), read_form("a")), (read_form("[ a b ]"), read_form("0.. ( b a )")),
                           (A, B)):
            lists = []
            for form in (one, other):
                among = all_stands(form)[1:]
                lists.append([(None,), (), tuple(among), *[(stand,) for stand in among]])
            pairs = [START] + [(here, beside) for here in lists[0] for beside in lists[1]]
            for at in range(len(pairs)):
                for paper in ([START, pairs[at]], pairs[at:], pairs[:at + 1], pairs[at::3] + [START],
                              pairs[:at] + pairs[at + 1:]):
                    self.by_the_document(one, other, paper)

    def test_things_that_are_none(self):
        deep = "x"
        for _ in range(39):
            deep = (deep, deep)
        for one, other in ((EMPTY, read_form("0..1 a")), (A, read_form("( a b )"))):
            paper = within(one, other)[1]
            for things in ([None], [0], [False], ["ab"], [()], [[]], [(None, None)], [(None, ())], [[(None,), (None,)]],
                           [([None], [None])], [((None, None), (None,))], [((0,), (0,))], [((False,), (None,))],
                           [("", "")],
                           [deep], [(deep, deep)], [((deep,), (deep,))], [((), deep)], [((), (deep,))], [((), [])]):
                self.right(one, other, things, False)
                self.right(one, other, paper + things, False)
            for thing in (None, 0, True, "", (), tuple(paper), deep):
                self.assertIs(is_within_paper(one, other, thing), False)


class Machines(unittest.TestCase):

    def told_least(self, machine):
        self.assertIs(is_machine(machine), True, machine)
        self.assertEqual(least_of(machine), machine)

    def test_small_forms_by_short_rows(self):
        some = forms()[3::31]
        rows = rows_up_to("abz", 4)
        for one in some:
            for other in some:
                told, more = both(one, other), either(one, other)
                self.told_least(more)
                if told is not None:
                    self.told_least(told)
                for row in rows:
                    yes, too = takes(one, row), takes(other, row)
                    self.assertIs(told is not None and runs(told, row), yes and too, (one, other, row))
                    self.assertIs(runs(more, row), yes or too, (one, other, row))
                self.assertEqual(told == least(one), within(one, other)[0] == "within")
                self.assertEqual(more == least(other), within(one, other)[0] == "within")

    def test_both(self):
        for text, other, same in [("0.. 2..2 a", "0.. 3..3 a", "0.. 6..6 a"), ("0.. ( a b )", "2..3 a", "2..3 a"),
                                  ("[ 0.. ( a b ) a ]", "[ b 0.. ( a b ) ]", "[ b 0.. ( a b ) a ]"),
                                  ("0..1 a", "0..1 b", "[ ]"),
                                  ("( [ a b ] [ a c ] b )", "[ a ( c d ) ]", "[ a c ]"),
                                  ("0.. ( a b )", "0.. ( b c )", "0.. b")]:
            self.assertEqual(both(read_form(text), read_form(other)), least(read_form(same)), (text, other))
            self.assertEqual(both(read_form(other), read_form(text)), least(read_form(same)), (text, other))

    def test_no_row_in_common(self):
        for text, other in [("a", "b"), ("[ ]", "a"), ("[ a b ]", "[ a a ]"), ("1.. a", "1.. b"), ("2..3 a", "4..5 a"),
                            ("[ 0.. ( a b ) a ]", "[ 0.. ( a b ) b ]"), ("[ a 0.. 2..2 a ]", "0.. 2..2 a")]:
            self.assertIsNone(both(read_form(text), read_form(other)), (text, other))
            self.assertIsNone(both(read_form(other), read_form(text)), (text, other))

    def test_either(self):
        for text, other, same in [("0.. 2..2 a", "[ a 0.. 2..2 a ]", "0.. a"), ("a", "b", "( a b )"),
                                  ("[ ]", "1.. a", "0.. a"),
                                  ("[ a b ]", "[ a c ]", "[ a ( b c ) ]"), ("2..3 a", "4..5 a", "2..5 a"),
                                  ("a", "a", "a"),
                                  ("[ b a ]", "[ a b ]", "( [ a b ] [ b a ] )"),
                                  ("[ 0.. a b ]", "c", "( c [ 0.. a b ] )")]:
            self.assertEqual(either(read_form(text), read_form(other)), least(read_form(same)), (text, other))
            self.assertEqual(either(read_form(other), read_form(text)), least(read_form(same)), (text, other))

    def test_endings(self):
        for text, row, same in [("[ a b c ]", "a", "[ b c ]"), ("[ a b c ]", "abc", "[ ]"), ("2..3 a", "", "2..3 a"),
                                ("2..3 a", "aa", "0..1 a"), ("0.. [ a b ]", "a", "[ b 0.. [ a b ] ]"),
                                ("0.. a", "aaaaa", "0.. a"),
                                ("[ 0.. ( a b ) a b ]", "bba", "( b [ 0.. ( a b ) a b ] )"),
                                ("( [ a b ] [ a c ] )", "a", "( b c )")]:
            self.assertEqual(endings(read_form(text), tuple(row)), least(read_form(same)), (text, row))

    def test_no_endings(self):
        for text, row in [("[ a b c ]", "b"), ("[ a b c ]", "abca"), ("2..3 a", "aaaa"), ("[ ]", "a"),
                          ("0.. [ a b ]", "aa")]:
            self.assertIsNone(endings(read_form(text), tuple(row)), (text, row))
        self.assertIsNone(endings(A, ("aa",)))
        self.assertEqual(endings(EMPTY, ()), ONLY_EMPTY)
        self.assertEqual(endings(A, ("a",)), ONLY_EMPTY)

    def test_endings_by_short_rows(self):
        rows = rows_up_to("ab", 3)
        for form in forms()[::11]:
            for row in rows:
                told = endings(form, row)
                if told is not None:
                    self.told_least(told)
                    self.assertEqual([sign for sign, _ in told[0][1]], may_come(form, row))
                for more in rows:
                    self.assertIs(told is not None and runs(told, more), takes(form, row + more), (form, row, more))

    def test_forty_rooms_and_one_more(self):
        forty, more = read_form("[ 0.. 10..10 4..4 a ]"), read_form("0.. [ 10..10 4..4 a a ]")
        self.assertEqual([len(least(form)) for form in (forty, more)], [40, 41])
        other = read_form("0.. 3..3 [ 12..12 a a ]")
        self.assertEqual(len(least(other)), 39)
        self.assertEqual(both(forty, other), least_of(ring(1560, lambda at: at == 0)))
        self.assertEqual(either(forty, other), least_of(ring(1560, lambda at: at % 40 == 0 or at % 39 == 0)))
        self.assertEqual(len(both(forty, other)), 1560)
        self.assertEqual(both(forty, forty), least(forty))
        for one, beside in ((more, A), (A, more), (more, more), (forty, more), (more, forty), (more, read_form("b"))):
            for function in (both, either):
                with self.assertRaises(TooWide):
                    function(one, beside)
        # Within, and endings, have no such bound.
        self.assertEqual(within(more, more)[0], "within")
        self.assertEqual(len(endings(more, ("a",))), 41)

    def test_lines_of_forty_rooms(self):
        line, more = read_form("[ 3..3 12..12 a a a a ]"), read_form("[ 3..3 12..12 a 4..4 a ]")
        self.assertEqual([len(least(form)) for form in (line, more)], [40, 41])
        self.assertEqual(both(line, read_form("0.. a")), least(line))
        self.assertEqual(either(line, A), least(read_form("( a [ 3..3 12..12 a a a a ] )")))
        for function in (both, either):
            with self.assertRaises(TooWide):
                function(A, more)
            with self.assertRaises(TooWide):
                function(more, line)

    def test_wide(self):
        for wide in WIDE:
            for form in (A, EMPTY, *NOT_WIDE[:1], wide):
                for one, other in ((wide, form), (form, wide)):
                    for function in (within, both, either):
                        with self.assertRaises(TooWide):
                            function(one, other)
                    for thing in ([], [START], [None], None, 0, "a", [(((0,), (True,)), 1)]):
                        with self.assertRaises(TooWide):
                            is_within_paper(one, other, thing)
            for row in ((), ("a",), ("z", "z")):
                with self.assertRaises(TooWide):
                    endings(wide, row)
        self.assertEqual(len(endings(FOUR_HUNDRED_LISTS, ())), 400)
        self.assertEqual(within(FOUR_HUNDRED_LISTS, FOUR_HUNDRED_LISTS)[0], "within")
        with self.assertRaises(TooWide):
            both(FOUR_HUNDRED_LISTS, FOUR_HUNDRED_LISTS)


def ring(many, ends):
    """A machine of rooms in a ring."""
    return tuple((ends(at), (("a", (at + 1) % many),)) for at in range(many))


if __name__ == "__main__":
    unittest.main()
