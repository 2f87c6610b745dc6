import unittest
from itertools import combinations
from random import Random

from soleway import made as made_file
from soleway.alike import alike
from soleway.building import built
from soleway.errors import TooWide, WayError
from soleway.forms import is_form, is_plain
from soleway.formtexts import read_form
from soleway.machines import least, least_of
from soleway.made import is_none_paper, made_once
from soleway.once import once
from soleway.opening import opened
from soleway.orbits import cut_gates, cut_orbits
from soleway.sure import sure
from paperforms import WIDE, forms
from plainly import A
from plainmachines import has_one_plainly, is_none_paper_plainly, made_at_hazard, small_machines

CLOSED = ("closed",)
COUNTS = [(0, 1), (0, None), (1, None), (0, 1), (0, None), (2, 2), (1, 2), (0, 2), (2, 3), (2, None), (3, 3)]
# Forms for which none is made, each with a paper.
NONE = [("[ 0.. ( a b ) a ( a b ) ]", ((), CLOSED)), ("( 0.. 2..2 a 0.. 3..3 a )", ((), CLOSED)),
        ("[ 0.. 3..3 a 0..1 a ]", ((), CLOSED)), ("0.. ( [ a b ] [ a c 0.. a ] )", ((), CLOSED)),
        ("[ 0.. 3..3 a 0..1 a b ]", ((0,), CLOSED)), ("[ c 0.. 3..3 a 0..1 a b ]", ((1,), CLOSED)),
        ("0.. [ 0.. 3..3 a 0..1 a b ]", ((1,), CLOSED)), ("[ 0.. [ 0.. 3..3 a 0..1 a b ] c ]", ((0, 1), CLOSED)),
        ("[ 0.. [ a b ] 0..1 [ a c ] ]", ((), ("uneven", 0, 1))),
        ("[ 0.. 2..2 a 0..1 [ a b ] ]", ((), ("uneven", 0, 1))),
        ("( [ 0.. [ a a ] b ] [ 0.. [ a a ] a c ] )", ((), ("uneven", 0, 1))),
        ("( [ 0.. [ a a ] b ] [ 0.. [ a a ] a b b ] )", ((), ("uneven", 0, 1))),
        ("[ 0.. 3..3 a ( b [ a b ] [ a a c ] ) ]", ((), ("uneven", 0, 3))),
        ("[ 0.. ( b [ a a ] [ a b 0.. a b ] ) 0..1 [ a b 0.. a ] ]", ((), ("uneven", 0, 1))),
        ("[ 0.. ( b [ a a ] [ a b 0.. a b ] ) 0..1 [ a b 0.. a ] c ]", ((0,), ("uneven", 0, 1))),
        ("[ 0.. ( [ a a b ] [ a c ] ) 0..1 [ a b ] ]", None), ("0.. [ 0.. 2..2 a 0..1 [ a b ] c ]", None)]


def at_hazard(many, seed):
    """Forms of one to six leaves, plain or with counts, the same ones each time."""
    dice = Random(seed)
    told = []
    while len(told) < many:
        told.append(one_at_hazard(dice, dice.randint(1, 6), "abc"[:dice.randint(1, 3)], dice.choice((3, 11))))
    return [form for form in told if is_form(form)]


def one_at_hazard(dice, many, signs, counts):
    if dice.random() < 0.3:
        return ("times", one_at_hazard(dice, many, signs, counts) if many > 1 else ("sign", dice.choice(signs)),
                *dice.choice(COUNTS[:counts]))
    if many == 1:
        return ("sign", dice.choice(signs))
    first = dice.randint(1, many - 1)
    parts = (one_at_hazard(dice, first, signs, counts), one_at_hazard(dice, many - first, signs, counts))
    return (dice.choice(("row", "row", "pick")), parts)


class Made(unittest.TestCase):

    def right(self, form):
        """Hold what is told of a form against the document, and tell whether one is made, None where it is refused."""
        machine = least(form)
        if len(machine) > 6:
            for function in (lambda: made_once(form), lambda: is_none_paper(form, ((), CLOSED))):
                with self.assertRaises(TooWide):
                    function()
            return None
        told = made_once(form)
        self.assertEqual(len(told), 2)
        if told[0] == "none":
            self.assertIs(has_one_plainly(machine), False, form)
            self.assertIs(is_none_paper(form, told[1]), True, form)
            self.assertIs(is_none_paper_plainly(machine, told[1]), True, form)
            return False
        self.assertEqual(told[0], "made")
        self.assertIs(has_one_plainly(machine), True, form)
        self.made_rightly(form, told[1])
        self.made_rightly(form, built(machine))
        self.assertIs(is_none_paper(form, ((), CLOSED)), False)
        return True

    def made_rightly(self, form, told):
        self.assertIs(is_plain(told), True, form)
        self.assertEqual(once(told)[0], "once", form)
        self.assertEqual(alike(form, told)[0], "alike", form)

    def test_small_forms(self):
        many = {True: 0, False: 0, None: 0}
        for form in forms() + at_hazard(1500, 11):
            word = self.right(form)
            many[word] += 1
            if word is not None and (sure(form)[0] == "sure" or is_plain(form) and once(form)[0] == "once"):
                self.assertIs(word, True, form)
        self.assertTrue(min(many.values()) > 10, many)

    def test_told(self):
        for text, expected in [("[ ]", "[ ]"), ("a", "a"), ("0.. a", "0.. a"), ("1.. a", "1.. a"), ("( a a )", "a"),
                               ("2..3 a", "[ a a 0..1 a ]"), ("[ 0.. ( a b ) a ]", "1.. [ 0.. b a ]"),
                               ("2.. a", "[ a 1.. a ]"),
                               ("[ 0..1 a a ]", "[ a 0..1 a ]"), ("( [ a b ] [ a c ] )", "[ a ( b c ) ]"),
                               ("0.. 2..3 a", "0..1 [ a 1.. a ]")]:
            told = made_once(read_form(text))
            self.assertEqual(told[0], "made")
            self.made_rightly(read_form(expected), told[1])

    def test_rows_that_end_with_a_word(self):
        # Of each sign it would have to be known whether the word goes on, and yet there is a form.
        for text in ("[ 0.. ( a b ) a a b ]", "[ 0.. ( a b ) a b a ]", "[ 0.. ( a b ) a a a a a ]",
                     "[ 0.. ( a b ) a b a b a ]",
                     "[ 0.. ( a b c d e f ) a b c d e ]", "[ 0.. ( a b c d e f ) a b a b a ]",
                     "[ 0.. ( a b c d e f ) a a a a a ]",
                     "[ 0.. ( a b c d e ) c e e e b ]"):
            form = read_form(text)
            self.assertEqual(once(form)[0], "two")
            self.assertIs(self.right(form), True)

    def test_sure_forms(self):
        for text in ("0..5 ( a b )", "2..5 a", "5.. a", "0.. 2..2 [ a b ]", "1..2 [ 0..1 a b ]", "0..2 [ a 0..1 b ]",
                     "3..4 0..1 a",
                     "( 0..3 a [ b 0..2 a ] )", "[ 2..2 0..1 a b ]", "0.. ( 2..2 a b )"):
            form = read_form(text)
            self.assertEqual(sure(form)[0], "sure")
            self.assertIs(self.right(form), True)
            self.assertIs(self.right(opened(form)), True)

    def test_at_once_but_not_sure(self):
        for text in ("1..2 1..2 a", "2..3 1..1 a", "0..2 0..2 a", "1..2 3..4 a"):
            self.assertIn(self.right(read_form(text)), (True, None))
        self.assertIs(self.right(read_form("0..2 0..2 a")), True)

    def test_numbers_of_one_sign_by_rests(self):
        for many in range(1, 7):
            for some in range(1, many + 1):
                for rests in combinations(range(many), some):
                    ring = ("times", ("row", (A,) * many), 0, None)
                    form = ("pick", tuple(("row", (A,) * rest + (ring,)) for rest in rests))
                    period = min(n for n in range(1, many + 1)
                                 if {(rest + n) % many for rest in rests} == set(rests) and many % n == 0)
                    # There is one where just one rest is left by the least number that they come again by.
                    self.assertIs(self.right(form), len(rests) * period == many, (many, rests))

    def test_numbers_of_one_sign_with_a_beginning(self):
        many = [0, 0]
        for ahead in range(1, 4):
            for period in range(1, 4):
                for ends in range(1, 2 ** (ahead + period)):
                    rows = [("row", (A,) * n + ((("times", ("row", (A,) * period), 0, None),) if n >= ahead else ()))
                            for n in range(ahead + period) if ends >> n & 1]
                    told = self.right(("pick", tuple(rows)))
                    many[told] += 1
        self.assertTrue(min(many) > 10, many)

    def test_all_small_machines_and_others(self):
        for machine in small_machines() + made_at_hazard(400, 5):
            machine = least_of(machine)
            if len(machine) <= 6 and has_one_plainly(machine):
                told = built(machine)
                self.assertIs(is_plain(told), True)
                self.assertEqual(once(told)[0], "once")
                self.assertEqual(least(told), machine)

    def test_six_and_seven_rooms(self):
        for text, rooms, word in [("5..5 a", 6, True), ("6..6 a", 7, None), ("0.. 6..6 a", 6, True),
                                  ("0.. 7..7 a", 7, None),
                                  ("[ 0.. 6..6 a 0..1 a ]", 6, False), ("[ 0.. 7..7 a 0..1 a ]", 7, None),
                                  ("[ ]", 1, True),
                                  ("0..5 ( a b c d e f )", 6, True), ("0..6 ( a b c d e f )", 7, None),
                                  ("[ 0..1 a 0..1 b 0..1 c 0..1 d 0..1 e ]", 6, True),
                                  ("[ 0.. ( a b ) a ( a b ) ( a b ) ]", 8, None)]:
            form = read_form(text)
            self.assertEqual(len(least(form)), rooms, text)
            self.assertIs(self.right(form), word, text)

    def test_what_is_told_is_made_again(self):
        for text in ("2..3 a", "[ 0.. ( a b ) a b ]", "0..2 0..2 a"):
            told = made_once(read_form(text))[1]
            self.assertIs(self.right(told), True)

    def test_by_name_and_where_it_is(self):
        self.assertEqual(made_once(form=A), ("made", A))
        self.assertIs(is_none_paper(form=A, thing=((), CLOSED)), False)
        for function in (made_once, is_none_paper):
            self.assertEqual(function.__module__, made_file.__name__)


class Papers(unittest.TestCase):

    def by_the_document(self, form, thing):
        self.assertIs(is_none_paper(form, thing), is_none_paper_plainly(least(form), thing), (form, thing))

    def test_none(self):
        for text, paper in NONE:
            form = read_form(text)
            word, told = made_once(form)
            self.assertEqual(word, "none", text)
            self.assertIs(is_none_paper(form, told), True, text)
            if paper is not None:
                self.assertIs(is_none_paper(form, paper), True, text)
                self.assertIs(is_none_paper_plainly(least(form), paper), True, text)

    def test_each_reason_and_ways_down(self):
        told = [made_once(form)[1] for form in at_hazard(3000, 23)
                if len(least(form)) <= 6 and made_once(form)[0] == "none"]
        told += [made_once(read_form(text))[1] for text, _ in NONE]
        for downs in (0, 1):
            for why in ("closed", "uneven"):
                self.assertTrue([1 for paper in told if len(paper[0]) == downs and paper[1][0] == why], (downs, why))
        self.assertTrue([1 for paper in told if len(paper[0]) == 2])

    def test_bent(self):
        for text, _ in NONE:
            form = read_form(text)
            downs, why = made_once(form)[1]
            for thing in ((downs[:-1], why), ((*downs, 0), why), ((0, *downs), why), ((*downs, 0, 0), why),
                          ((*downs, 1), why),
                          (downs[::-1], why), (downs, CLOSED), ((), CLOSED), (downs, ("uneven", 0, 0)), ((), why)):
                self.by_the_document(form, thing)
            for at in range(len(downs)):
                for room in (-1, 0, 1, 2, 3, 6, 100):
                    self.by_the_document(form, ((*downs[:at], room, *downs[at + 1:]), why))
                for room in (True, False, None, "0", (0,), [0], "", ()):
                    self.assertIs(is_none_paper(form, ((*downs[:at], room, *downs[at + 1:]), why)), False)
            for one in range(-1, 7):
                for other in range(-1, 7):
                    self.by_the_document(form, (downs, ("uneven", one, other)))

    def test_gates_exchanged_and_others(self):
        form = read_form("[ 0.. 3..3 a ( b [ a b ] [ a a c ] ) ]")
        self.assertEqual(cut_orbits(least(form)), [[0, 1, 3], [2]])
        self.assertEqual(cut_gates(least(form), [0, 1, 3]), [0, 1, 3])
        right = [(one, other) for one in range(-1, 6) for other in range(-1, 6)
                 if is_none_paper(form, ((), ("uneven", one, other)))]
        self.assertEqual(right, [(0, 3), (1, 3), (3, 0), (3, 1)])
        for one in (True, False, None, "0", (0,), [3], 3, ()):
            for other in (True, False, None, "3", (3,), [0]):
                self.assertIs(is_none_paper(form, ((), ("uneven", one, other))), False)
                self.assertIs(is_none_paper(form, ((), ("uneven", other, one))), False)

    def test_truths(self):
        form = read_form("[ 0.. 2..2 a 0..1 [ a b ] ]")
        self.assertIs(is_none_paper(form, ((), ("uneven", 0, 1))), True)
        for one, other in ((False, 1), (0, True), (False, True), (1, False), (True, 0)):
            self.assertIs(is_none_paper(form, ((), ("uneven", one, other))), False)
        form = read_form("[ 0.. 3..3 a 0..1 a b ]")
        self.assertIs(is_none_paper(form, ((0,), CLOSED)), True)
        self.assertIs(is_none_paper(form, ((False,), CLOSED)), False)
        form = read_form("[ c 0.. 3..3 a 0..1 a b ]")
        self.assertIs(is_none_paper(form, ((True,), CLOSED)), False)

    def test_ways_down_that_come_to_the_same_machine(self):
        # A closed machine is the part of its own orbit.
        form = read_form("[ 0.. 3..3 a 0..1 a ]")
        for many in (0, 1, 2, 50):
            self.assertIs(is_none_paper(form, ((0,) * many, CLOSED)), True)
            self.assertIs(is_none_paper(form, ((0,) * many + (1,), CLOSED)), False)
            self.assertIs(is_none_paper(form, ((1,) + (0,) * many, CLOSED)), False)

    def test_rooms_that_are_not_the_least_or_whose_orbits_are_bare(self):
        form = read_form("[ c 0.. 3..3 a 0..1 a b ]")
        self.assertEqual(cut_orbits(least(form)), [[0], [1, 2, 4], [3]])
        for room, right in ((0, False), (1, True), (2, False), (3, False), (4, False), (5, False), (-1, False),
                            (-4, False)):
            self.assertIs(is_none_paper(form, ((room,), CLOSED)), right, room)

    def test_where_one_is_made(self):
        for text in ("a", "[ ]", "0.. a", "[ 0.. ( a b ) a b ]", "0.. 3..3 a", "2..5 a", "[ 0.. 3..3 a b ]"):
            form = read_form(text)
            self.assertEqual(made_once(form)[0], "made")
            for downs in ((), (0,), (1,), (0, 0), (1, 0), (0, 1)):
                for why in (CLOSED, *[("uneven", one, other) for one in range(4) for other in range(4)]):
                    self.assertIs(is_none_paper(form, (downs, why)), False)

    def test_things_of_other_kinds(self):
        deep = ("closed",)
        for _ in range(38):
            deep = (deep, deep)
        lists = []
        for _ in range(39):
            lists = [lists]
        for text, _ in NONE:
            form = read_form(text)
            downs, why = made_once(form)[1]
            for thing in (None, True, False, 0, 1, "", "closed", "ab", (), [], (downs,), (why,), why, downs,
                          [downs, why],
                          (list(downs), why), (downs, list(why)), (why, downs), (downs, why, ()), (downs, *why),
                          (downs, None),
                          (None, why), (downs, "closed"), (downs, ()), (downs, ("close",)), (downs, ("closed", 0)),
                          (0, why),
                          (downs, ("closed", 0, 1)), (downs, ("uneven",)), (downs, ("uneven", 0)),
                          (downs, ("uneven", 0, 1, 2)),
                          (downs, ("uneven", (0, 1))), (downs, (("closed",),)), (downs, (None,)), (downs, (0, 1, 2)),
                          deep, lists,
                          (deep, why), (downs, deep), ((deep,), why), (downs, (deep,)), (downs, ("uneven", deep, deep)),
                          ((None, *downs), why), ("", why), ("0", why), (downs, ("uneven", [0], [1])),
                          (downs, ("even", 0, 1)),
                          ((*downs, lists), why), (downs, lists), (downs, ("", 0, 1)), ((downs,), why),
                          (downs, (True, 0, 1))):
                self.assertIs(is_none_paper(form, thing), False, (text, thing if thing is not deep else "deep"))


class Wide(unittest.TestCase):

    def refused(self, form):
        with self.assertRaises(TooWide) as caught:
            made_once(form)
        self.assertIsInstance(caught.exception, WayError)
        for thing in (None, (), [], 0, "a", ((), CLOSED), ((0,), CLOSED), ((), ("uneven", 0, 1)), ([], {}), True):
            with self.assertRaises(TooWide):
                is_none_paper(form, thing)

    def test_wide_forms(self):
        for form in WIDE:
            self.refused(form)

    def test_more_than_six_rooms(self):
        for text in ("6..6 a", "[ 0.. 7..7 a 0..1 a ]", "12..12 12..12 a", "[ 0.. ( a b ) a ( a b ) ( a b ) ]",
                     "0..6 a"):
            form = read_form(text)
            self.assertGreater(len(least(form)), 6)
            self.refused(form)


if __name__ == "__main__":
    unittest.main()
