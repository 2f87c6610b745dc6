import unittest

from soleway import stands as stands_file
from soleway.errors import TooWide
from soleway.forms import leaves, signs_of
from soleway.formtexts import read_form
from soleway.readings import takes
from soleway.stands import behind, ending, first_wrong, may_come, may_end, stands, steps
from plainly import A, B, all_stands, counted_forms, readings, rows_up_to, run_of, shortlex, small_forms

EMPTY = ("row", ())
FUNCTIONS = (steps, behind, may_end, stands, may_come, first_wrong, ending)
WIDE = "12..12 12..12 [ a b c ]"


def runs_along(form, row):
    """All runs along a row, by steps and behind, as pairs of steps and stands."""
    told = [()]
    for sign in row:
        told = [(*run, (step, behind(form, last_of(run), step))) for run in told
                for step in steps(form, last_of(run), sign)]
    return told


def last_of(run):
    return run[-1][1] if run else None


def row_of(text):
    return tuple(text.replace(" ", ""))


class AgainstReadings(unittest.TestCase):
    """Small forms and rows: the runs that may end are just the readings, turned into runs."""

    def compared(self, forms, most):
        for form in forms:
            for row in rows_up_to("ab", most):
                expected = sorted([run_of(form, reading) for reading in readings(form, row)], key=repr)
                runs = [run for run in runs_along(form, row) if may_end(form, last_of(run))]
                self.assertEqual(sorted(runs, key=repr), expected, (form, row))
                self.assertEqual(len(set(runs)), len(runs))

    def test_small_forms(self):
        self.compared(small_forms(), 4)

    def test_counted_forms(self):
        self.compared(counted_forms(), 5)

    def test_long_rows_of_few_readings(self):
        for text, row in [("2..3 [ a 1..4 b ]", "abbbabab"), ("2..2 [ 2..2 [ 2..2 a b ] c ]", "aabaabcaabaabc"),
                          ("0.. [ 3.. a b ]", "aaabaaaaab"), ("3..4 2..2 ( a b )", "abbaab")]:
            form = read_form(text)
            runs = [run for run in runs_along(form, tuple(row)) if may_end(form, last_of(run))]
            told = [run_of(form, reading) for reading in readings(form, tuple(row))]
            self.assertTrue(told, text)
            self.assertEqual(sorted(runs, key=repr), sorted(told, key=repr), text)


class Steps(unittest.TestCase):

    def told(self, text, stand, sign, expected):
        """`expected` has each step and the stand behind it."""
        form = read_form(text)
        self.assertEqual(steps(form, stand, sign), [step for step, _ in expected])
        for step, led_to in expected:
            self.assertEqual(behind(form, stand, step), led_to)

    def test_from_none(self):
        self.told("a", None, "a", [(((), None), ((), ()))])
        self.told("a", None, "b", [])
        self.told("[ ]", None, "a", [])
        self.told("[ 0..1 a 0.. b a b ]", None, "a", [(((0, 0), None), ((0, 0), (1,))), (((2,), None), ((2,), ()))])
        self.told("[ 0..1 a 0.. b a b ]", None, "b", [(((1, 0), None), ((1, 0), (1,)))])
        self.told("( a 2..3 [ a ] 0.. 2..2 ( b a ) )", None, "a",
                  [(((0,), None), ((0,), ())), (((1, 0, 0), None), ((1, 0, 0), (1,))),
                   (((2, 0, 0, 1), None), ((2, 0, 0, 1), (1, 1)))])

    def test_a_sign_alone(self):
        self.told("a", ((), ()), "a", [])
        self.assertIs(may_end(A, ((), ())), True)
        self.assertIs(may_end(A, None), False)

    def test_rows(self):
        self.told("[ a 0..1 b [ ] a b ]", ((0,), ()), "b", [(((1, 0), None), ((1, 0), (1,)))])
        self.told("[ a 0..1 b [ ] a b ]", ((0,), ()), "a", [(((3,), None), ((3,), ()))])
        self.told("[ a 0..1 b [ ] a b ]", ((1, 0), (1,)), "b", [])
        self.told("[ a 0..1 b [ ] a b ]", ((3,), ()), "b", [(((4,), None), ((4,), ()))])
        self.told("[ [ a 0..1 b ] 0..1 a b ]", ((0, 0), ()), "b",
                  [(((0, 1, 0), None), ((0, 1, 0), (1,))), (((2,), None), ((2,), ()))])

    def test_rounds_at_low_and_at_high(self):
        leaf = (0, 0)
        for number, expected in [(1, []), (2, [(((1,), None), ((1,), ()))]), (3, [(((1,), None), ((1,), ()))])]:
            self.told("[ 2..3 a b ]", (leaf, (number,)), "b", expected)
        for number in (1, 2):
            self.told("[ 2..3 a b ]", (leaf, (number,)), "a", [((leaf, (0,)), (leaf, (number + 1,)))])
        self.told("[ 2..3 a b ]", (leaf, (3,)), "a", [])
        self.told("2..2 a", ((0,), (2,)), "a", [])
        self.told("1..1 a", ((0,), (1,)), "a", [])
        self.told("0..1 a", ((0,), (1,)), "a", [])
        self.told("0..12 a", ((0,), (11,)), "a", [(((0,), ()), ((0,), (12,)))])
        self.told("0..12 a", ((0,), (12,)), "a", [])

    def test_no_high(self):
        for low in range(13):
            form = ("times", A, low, None)
            most = max(1, low)
            for number in range(1, most + 1):
                stand = ((0,), (number,))
                self.assertEqual(steps(form, stand, "a"), [((0,), ())])
                self.assertEqual(behind(form, stand, ((0,), ())), ((0,), (min(number + 1, most),)))
                self.assertIs(may_end(form, stand), number >= low)
            self.assertEqual(stands(form, ("a",) * 30), [((0,), (most,))])

    def test_parts_that_may_take_nothing(self):
        for text in ("0.. 0..1 a", "1.. 0..1 a", "7.. 0..1 a", "12.. ( [ ] [ a ] )"):
            form = read_form(text)
            leaf = leaves(form)[0]
            rounds = (1,) * (2 if "0..1" in text else 1)
            self.assertEqual(steps(form, (leaf, rounds), "a"), [(leaf, ())])
            self.assertEqual(behind(form, (leaf, rounds), (leaf, ())), (leaf, rounds))
            self.assertIs(may_end(form, (leaf, rounds)), True)
            self.assertIs(may_end(form, None), True)
        form = read_form("3..4 0..1 a")
        for number in (1, 2, 3):
            self.told("3..4 0..1 a", ((0, 0), (number, 1)), "a", [(((0, 0), ()), ((0, 0), (number + 1, 1)))])
            self.assertIs(may_end(form, ((0, 0), (number, 1))), True)
        self.told("3..4 0..1 a", ((0, 0), (4, 1)), "a", [])
        self.assertIs(may_end(form, ((0, 0), (4, 1))), True)

    def test_again_and_within_a_round(self):
        text = "0..3 [ a 2..2 b 0..1 a ]"
        self.told(text, ((0, 0), (2,)), "b", [(((0, 1, 0), None), ((0, 1, 0), (2, 1)))])
        self.told(text, ((0, 0), (2,)), "a", [])
        self.told(text, ((0, 1, 0), (2, 1)), "b", [(((0, 1, 0), (0, 1)), ((0, 1, 0), (2, 2)))])
        self.told(text, ((0, 1, 0), (2, 1)), "a", [])
        self.told(text, ((0, 1, 0), (2, 2)), "a",
                  [(((0, 0), ()), ((0, 0), (3,))), (((0, 2, 0), None), ((0, 2, 0), (2, 1)))])
        self.told(text, ((0, 1, 0), (3, 2)), "a", [(((0, 2, 0), None), ((0, 2, 0), (3, 1)))])
        self.told(text, ((0, 2, 0), (3, 1)), "a", [])
        self.told(text, ((0, 2, 0), (1, 1)), "a", [(((0, 0), ()), ((0, 0), (2,)))])

    def test_two_steps_to_one_leaf(self):
        leaf = (0, 0)
        self.told("0..2 1..2 a", (leaf, (1, 1)), "a", [((leaf, ()), (leaf, (2, 1))), ((leaf, (0,)), (leaf, (1, 2)))])
        self.told("0..2 1..2 a", (leaf, (1, 2)), "a", [((leaf, ()), (leaf, (2, 1)))])
        self.told("0..2 1..2 a", (leaf, (2, 1)), "a", [((leaf, (0,)), (leaf, (2, 2)))])
        self.told("0..2 1..2 a", (leaf, (2, 2)), "a", [])
        self.told("0.. 0.. a", (leaf, (1, 1)), "a", [((leaf, ()), (leaf, (1, 1))), ((leaf, (0,)), (leaf, (1, 1)))])

    def test_none_ahead_of_places(self):
        self.told("0.. [ 0..1 a 0..1 a ]", ((0, 0, 0), (1, 1)), "a",
                  [(((0, 0, 0), ()), ((0, 0, 0), (1, 1))), (((0, 1, 0), None), ((0, 1, 0), (1, 1))),
                   (((0, 1, 0), ()), ((0, 1, 0), (1, 1)))])

    def test_three_times_within_one_another(self):
        leaf = (0, 0, 0)
        self.told("2..3 2..2 2.. a", (leaf, (1, 1, 1)), "a", [((leaf, (0, 0)), (leaf, (1, 1, 2)))])
        self.told("2..3 2..2 2.. a", (leaf, (1, 1, 2)), "a",
                  [((leaf, (0,)), (leaf, (1, 2, 1))), ((leaf, (0, 0)), (leaf, (1, 1, 2)))])
        self.told("2..3 2..2 2.. a", (leaf, (2, 2, 2)), "a",
                  [((leaf, ()), (leaf, (3, 1, 1))), ((leaf, (0, 0)), (leaf, (2, 2, 2)))])
        self.told("2..3 2..2 2.. a", (leaf, (3, 2, 2)), "a", [((leaf, (0, 0)), (leaf, (3, 2, 2)))])
        form = read_form("2..3 2..2 2.. a")
        ends = [stand for stand in all_stands(form) if may_end(form, stand)]
        self.assertEqual(ends, [(leaf, (2, 2, 2)), (leaf, (3, 2, 2))])

    def test_times_that_are_left_and_entered(self):
        self.told("2..2 [ 2..2 a 3..4 b ]", ((0, 0, 0), (1, 2)), "b", [(((0, 1, 0), None), ((0, 1, 0), (1, 1)))])
        self.told("2..2 [ 2..2 a 3..4 b ]", ((0, 1, 0), (1, 3)), "a", [(((0, 0, 0), ()), ((0, 0, 0), (2, 1)))])

    def test_sorted(self):
        for form in small_forms() + counted_forms():
            for stand in all_stands(form):
                for sign in "ab":
                    told = steps(form, stand, sign)
                    self.assertIs(type(told), list)
                    keys = [(leaf, again is not None, again or ()) for leaf, again in told]
                    self.assertEqual(keys, sorted(keys))
                    self.assertEqual(len(set(told)), len(told))

    def test_stands_have_numbers_within_bounds(self):
        for form in small_forms() + counted_forms():
            among = set(all_stands(form))
            for stand in among:
                for sign in "ab":
                    for step in steps(form, stand, sign):
                        self.assertIn(behind(form, stand, step), among)

    def test_each_stand_can_go_on_to_one_that_may_end(self):
        for form in (small_forms() + counted_forms())[::2]:
            among = all_stands(form)
            good = {stand for stand in among if may_end(form, stand)}
            onward = {stand: {behind(form, stand, step) for sign in "ab" for step in steps(form, stand, sign)}
                      for stand in among}
            for _ in among:
                good |= {stand for stand in among if onward[stand] & good}
            self.assertEqual(good, set(among), form)

    def test_by_name(self):
        form = ("times", A, 1, 2)
        self.assertEqual(steps(form=form, stand=None, sign="a"), [((0,), None)])
        self.assertEqual(behind(form=form, stand=((0,), (1,)), step=((0,), ())), ((0,), (2,)))
        self.assertIs(may_end(form=form, stand=((0,), (1,))), True)
        self.assertEqual(stands(form=form, row=()), [None])
        self.assertEqual(may_come(form=form, row=()), ["a"])
        self.assertIsNone(first_wrong(form=form, row=("a",)))
        self.assertEqual(ending(form=form, row=()), ("a",))


class BehindRows(unittest.TestCase):

    def forms(self):
        return small_forms()[::2] + counted_forms()[::3]

    def test_all_small_forms(self):
        for form in self.forms():
            signs = signs_of(form)
            for row in rows_up_to("ab", 4):
                runs = runs_along(form, row)
                there = sorted({last_of(run) for run in runs}) if row else [None]
                self.assertEqual(stands(form, row), there, (form, row))
                self.assertIs(type(stands(form, row)), list)
                may = [sign for sign in signs if any(steps(form, stand, sign) for stand in there)]
                self.assertEqual(may_come(form, row), may, (form, row))
                self.assertEqual(first_wrong(form, row), self.wrong(form, row), (form, row))

    def wrong(self, form, row):
        """The first sign that no run reads, the length where none may end."""
        if takes(form, row):
            return None
        return next((at for at in range(len(row)) if not runs_along(form, row[:at + 1])), len(row))

    def test_the_row_without_signs(self):
        for text, signs, wrong in [("a", ["a"], 0), ("[ ]", [], None), ("0.. ( b a )", ["a", "b"], None),
                                   ("[ 0..1 b a ]", ["a", "b"], 0), ("2..2 0..1 c", ["c"], None)]:
            form = read_form(text)
            self.assertEqual(stands(form, ()), [None])
            self.assertEqual(may_come(form, ()), signs)
            self.assertEqual(first_wrong(form, ()), wrong)
            self.assertIs(may_end(form, None), wrong is None)

    def test_wrong_signs(self):
        form = read_form("[ a 2..3 b c ]")
        for row, wrong, many, may in [("abbc", None, 1, []), ("abbbc", None, 1, []), ("bbbc", 0, 0, []),
                                      ("cabbc", 0, 0, []), ("acbbc", 1, 0, []), ("abcbc", 2, 0, []),
                                      ("abbbbc", 4, 0, []), ("abbca", 4, 0, []), ("abbb", 4, 1, ["c"]),
                                      ("abb", 3, 1, ["b", "c"]), ("ab", 2, 1, ["b"]), ("a", 1, 1, ["b"]),
                                      ("abbz", 3, 0, []), ("z", 0, 0, []), ("abbczzz", 4, 0, [])]:
            row = tuple(row)
            self.assertEqual(first_wrong(form, row), wrong, row)
            self.assertEqual(len(stands(form, row)), many, row)
            self.assertEqual(may_come(form, row), may, row)
        self.assertEqual(first_wrong(form, ("abbc",)), 0)
        self.assertEqual(first_wrong(form, ("a", "b", "b", "cc")), 3)
        self.assertEqual(first_wrong(("row", (("sign", "ab"),)), ("ab",)), None)

    def test_sorted_stands(self):
        form = read_form("2..3 [ 0..2 a 1..2 a ]")
        self.assertEqual(stands(form, ("a",)), [((0, 0, 0), (1, 1)), ((0, 1, 0), (1, 1))])
        first, second = (0, 0, 0), (0, 1, 0)
        self.assertEqual(stands(form, ("a", "a", "a")),
                         [(first, (2, 1)), (first, (2, 2)), (first, (3, 1)), (second, (1, 1)), (second, (1, 2)),
                          (second, (2, 1)), (second, (2, 2)), (second, (3, 1))])

    def test_told_lists_are_the_askers_own(self):
        form = read_form("0..2 1..2 [ a 0..1 ( b a ) ]")
        stand = stands(form, ("a",))[0]
        for tell in (lambda: steps(form, stand, "a"), lambda: stands(form, ("a", "a")), lambda: may_come(form, ("a",))):
            first = tell()
            kept = list(first)
            self.assertTrue(kept)
            first.append("more")
            first.reverse()
            self.assertEqual(tell(), kept)
            tell().clear()
            self.assertEqual(tell(), kept)

    def test_defined_there(self):
        for function in FUNCTIONS:
            self.assertEqual(function.__module__, stands_file.__name__)


class Endings(unittest.TestCase):

    def test_small_forms(self):
        rows = shortlex(rows_up_to("ab", 4))
        for form in small_forms() + counted_forms()[::3]:
            taken = {row: takes(form, row) for row in rows}
            for row in rows_up_to("ab", 2):
                told = ending(form, row)
                if not stands(form, row):
                    self.assertIsNone(told, (form, row))
                    continue
                self.assertIs(takes(form, row + told), True, (form, row))
                found = [rest for rest in rows if len(row + rest) <= 4 and taken[row + rest]]
                if found:
                    self.assertEqual(told, found[0], (form, row))
                else:
                    self.assertGreater(len(row + told), 4)

    def test_several_equally_short(self):
        for text, row, expected in [
                ("( b a c )", "", "a"), ("( [ b a ] [ a c ] [ a b ] )", "", "ab"), ("( [ a b ] [ b a ] c )", "", "c"),
                ("[ a ( [ c a ] [ b d ] [ b c ] ) ]", "a", "bc"), ("[ ( a b ) ( b a ) ( b a ) ]", "b", "aa"),
                ("( [ a z z ] [ b c ] )", "", "bc"), ("2..3 ( c b )", "c", "b"), ("[ 0.. a b ]", "aaa", "b"),
                ("( [ a b c ] [ a c b ] )", "a", "bc"), ("( [ a c a ] [ a b b ] [ a a c ] )", "a", "ac"),
                ("( [ a a c ] [ a b ] )", "a", "b")]:
            self.assertEqual(ending(read_form(text), row_of(row)), row_of(expected), text)
        self.assertEqual(ending(read_form("( ab b aa )"), ()), ("aa",))
        self.assertEqual(ending(read_form("( b ab )"), ()), ("ab",))
        self.assertEqual(ending(read_form("( [ b a ] [ ab b ] )"), ()), ("ab", "b"))

    def test_behind_taken_rows(self):
        self.assertEqual(ending(EMPTY, ()), ())
        self.assertEqual(ending(A, ("a",)), ())
        self.assertEqual(ending(read_form("0.. a"), ()), ())
        self.assertEqual(ending(read_form("2..4 a"), ("a", "a", "a")), ())

    def test_none(self):
        for text, row in [("a", "b"), ("a", "aa"), ("[ ]", "a"), ("2..4 a", "aaaaa"), ("[ a b ]", "ba"), ("a", "z")]:
            self.assertIsNone(ending(read_form(text), row_of(row)))

    def test_long_ones(self):
        self.assertEqual(ending(read_form("12..12 12..12 a"), ("a",)), ("a",) * 143)
        self.assertEqual(ending(read_form("12..12 11..11 [ a b c ]"), ("a", "b")), ("c",) + ("a", "b", "c") * 131)

    def test_wide(self):
        form = read_form(WIDE)
        for row in ((), ("a",), ("b",), ("zz",) * 3, ("a", "b", "c") * 20):
            with self.assertRaises(TooWide):
                ending(form, row)

    def test_the_others_are_told_of_wide_forms(self):
        form = read_form(WIDE)
        self.assertEqual(stands(form, row_of("abc" * 13 + "a")), [((0, 0, 0), (2, 2))])
        self.assertEqual(may_come(form, row_of("ab")), ["c"])
        self.assertEqual(first_wrong(form, row_of("abc" * 19 + "ac")), 58)
        self.assertIsNone(first_wrong(form, row_of("abc" * 144)))
        self.assertEqual(first_wrong(form, row_of("abc" * 145)), 432)
        self.assertEqual(steps(form, ((0, 0, 2), (3, 12)), "a"), [((0, 0, 0), ())])
        self.assertEqual(behind(form, ((0, 0, 2), (3, 12)), ((0, 0, 0), ())), ((0, 0, 0), (4, 1)))
        self.assertIs(may_end(form, ((0, 0, 2), (12, 12))), True)
        self.assertIs(may_end(form, ((0, 0, 2), (12, 11))), False)

    def test_very_many_stands(self):
        # Gone through stand by stand this would not come to an end in a test's time.
        eights = ("pick", (A,) * 8)
        form = ("times", ("times", ("times", ("pick", (eights,) * 6), 1, 12), 1, 12), 1, 12)
        told = stands(form, ("a",) * 40)
        self.assertEqual(told, sorted(told))
        self.assertGreater(len(told), 60000)
        self.assertEqual(told[-1][0], (0, 0, 0, 5, 7))
        self.assertEqual(max(rounds for _, rounds in told), (12, 12, 12))
        self.assertIsNone(first_wrong(form, ("a",) * 60))
        self.assertEqual(may_come(form, ("a",) * 60), ["a"])


class ToldForms(unittest.TestCase):
    """Forms beyond the bounds, as other parts of the program tell them."""

    def test_many_parts(self):
        form = ("row", tuple(("times", ("sign", "s" + letter), 0, 1) for letter in "abcdefghijklmnopqrst"))
        self.assertEqual(len(may_come(form, ())), 20)
        self.assertEqual(stands(form, ("sc", "sk")), [((10, 0), (1,))])
        self.assertEqual(may_come(form, ("sc", "sk")), ["s" + letter for letter in "lmnopqrst"])
        self.assertEqual(first_wrong(form, ("sc", "sk", "sb")), 2)
        self.assertEqual(ending(form, ("st",)), ())

    def test_many_times_within_one_another(self):
        form = A
        for _ in range(90):
            form = ("times", ("row", (A, form)), 0, 1)
        told = stands(form, ("a",) * 50)
        self.assertEqual([len(rounds) for _, rounds in told], [50])
        self.assertEqual(told[0][1], (1,) * 50)
        self.assertEqual(ending(form, ("a",) * 89), ())
        self.assertEqual(ending(form, ("a",) * 90), ("a",))
        self.assertEqual(ending(form, ("a",) * 91), ())

    def test_very_deep(self):
        form = ("times", A, 2, 2)
        for _ in range(2000):
            form = ("pick", (("row", (form,)),))
        leaf = (0,) * 4001
        self.assertEqual(stands(form, ("a",)), [(leaf, (1,))])
        self.assertEqual(steps(form, (leaf, (1,)), "a"), [(leaf, (0,) * 4000)])
        self.assertEqual(behind(form, (leaf, (1,)), (leaf, (0,) * 4000)), (leaf, (2,)))
        self.assertEqual(ending(form, ("a",)), ("a",))

    def test_long_rows(self):
        form = read_form("0.. [ 2.. a b ]")
        self.assertIsNone(first_wrong(form, row_of("aab" * 100)))
        self.assertEqual(first_wrong(form, row_of("aab" * 100 + "ab")), 301)
        self.assertEqual(ending(form, row_of("aab" * 100 + "a")), ("a", "b"))

    def test_other_signs_in_their_places(self):
        form = read_form("( [ zz a ] [ b c ] )")
        self.assertEqual(may_come(form, ()), ["b", "zz"])
        self.assertEqual(ending(form, ()), ("b", "c"))


if __name__ == "__main__":
    unittest.main()
