import unittest
from itertools import product

from soleway import readings as readings_file
from soleway.errors import TooMany, WayError
from soleway.forms import is_form, leaves, piece_at
from soleway.formtexts import read_form
from soleway.readings import all_readings, how_many, is_reading, leaves_read, one_reading, takes
from plainly import A, B, readings, rows_up_to, small_forms

EMPTY = ("row", ())
LEAF = ("leaf",)
NO_READINGS = [None, 0, 1, True, False, "", "leaf", (), [], ("leaf",), ["leaf"], ("leaf", None), ("leaf", "leaf"),
               ("row",), ("row", ()), ("row", None), ("row", 0), ("row", ((0,),)), ("row", (0, LEAF)), ("pick",),
               ("pick", 0), ("pick", None, LEAF), ("times",), ("times", ()), ("times", None), ("times", LEAF),
               ("times", (None,)), (LEAF,), ((0, LEAF),), ("sign", "a"), ("row", (A,)), "row", ("leaf\n",), (None,)]


def row_of(text):
    return tuple(text)


def changed(reading):
    """Things that are nearly a reading: each part of it put otherwise."""
    if reading is None:
        return [LEAF, ()]
    told = [None, [*reading], (*reading, LEAF), reading[:-1], (reading[0] + "s", *reading[1:]), (reading,)]
    told += [(word, *reading[1:]) for word in ("row", "pick", "times", "leaf", "sign")]
    if reading[0] == "pick":
        told += [("pick", k, reading[2]) for k in (-1, reading[1] + 1, reading[1] - 1, True, False, None, "0")]
        told += [("pick", reading[1], inner) for inner in changed(reading[2])]
    if reading[0] == "times":
        told += [("times", rounds) for rounds in changed_items(reading[1], changed)]
    if reading[0] == "row":
        told += [("row", pairs) for pairs in changed_items(reading[1], changed_pair)]
    return told


def changed_items(items, change):
    told = [list(items), items[0], items[1:], items + items, items + items[:1], items[::-1], (None, *items), None]
    for k, item in enumerate(items):
        told += [(*items[:k], other, *items[k + 1:]) for other in change(item)]
    return told


def changed_pair(pair):
    told = [list(pair), pair[1], (pair[1], pair[0]), (*pair, None), pair[:1], None]
    told += [(k, pair[1]) for k in (-1, pair[0] + 1, pair[0] - 1, bool(pair[0]), None, str(pair[0]))]
    return told + [(pair[0], inner) for inner in changed(pair[1])]


class AgainstTheDocument(unittest.TestCase):
    """Small forms and rows, each against all readings as the document tells them."""

    def each(self):
        for form in small_forms():
            for row in rows_up_to("ab", 4):
                yield form, row, readings(form, row)

    def test_all_told(self):
        for form, row, expected in self.each():
            self.assertEqual(takes(form, row), len(expected) > 0, (form, row))
            self.assertIs(type(takes(form, row)), bool)
            self.assertEqual(how_many(form, row), len(expected), (form, row))
            self.assertIs(type(how_many(form, row)), int)
            told = all_readings(form, row, 1000)
            self.assertIs(type(told), list)
            self.assertEqual(sorted(told, key=repr), sorted(expected, key=repr), (form, row))
            one = one_reading(form, row)
            if expected:
                self.assertEqual(len(one), 2)
                self.assertEqual(one[0], "read")
                self.assertIn(one[1], expected)
            else:
                self.assertEqual(one, ("none",))

    def test_the_limit(self):
        for form, row, expected in self.each():
            many = len(expected)
            if many > 0:
                self.assertEqual(len(all_readings(form, row, many)), many)
            if many > 1:
                with self.assertRaises(TooMany) as caught:
                    all_readings(form, row, many - 1)
                self.assertEqual(caught.exception.most, many - 1)

    def test_is_reading(self):
        for form, row, expected in self.each():
            for reading in expected:
                self.assertIs(is_reading(form, row, reading), True, (form, row, reading))
                for thing in changed(reading)[:60]:
                    self.assertIs(is_reading(form, row, thing), self.among(thing, expected), (form, row, thing))
            for thing in NO_READINGS:
                self.assertIs(is_reading(form, row, thing), self.among(thing, expected), (form, row, thing))

    def among(self, thing, expected):
        """Whether a thing is one of the readings; a truth is no number, though equal to one."""
        return thing in expected and "True" not in repr(thing) and "False" not in repr(thing)

    def test_is_reading_of_other_rows(self):
        forms = small_forms()[::3]
        rows = rows_up_to("ab", 3)
        for form in forms:
            told = {row: readings(form, row) for row in rows}
            things = [reading for row in rows for reading in told[row]]
            for row in rows:
                for thing in things:
                    self.assertIs(is_reading(form, row, thing), thing in told[row], (form, row, thing))

    def test_leaves_read(self):
        for form, row, expected in self.each():
            signs = set(leaves(form))
            for reading in expected:
                told = leaves_read(form, reading)
                self.assertIs(type(told), list)
                self.assertEqual(tuple(piece_at(form, place)[1] for place in told), row)
                self.assertLessEqual(set(told), signs)


class TheRowWithoutSigns(unittest.TestCase):

    def test_taken(self):
        for text in ("[ ]", "0.. a", "0..1 a", "3..4 [ ]", "[ 0..1 a 0.. b ]", "( a [ ] )", "( 0..1 a 0..1 a )",
                     "2..3 0..1 a", "[ [ ] [ ] ]"):
            form = read_form(text)
            self.assertIs(takes(form, ()), True)
            self.assertEqual(how_many(form, ()), 1, text)
            self.assertEqual(one_reading(form, ()), ("read", None))
            self.assertEqual(all_readings(form, (), 1), [None])
            self.assertIs(is_reading(form, (), None), True)
            for thing in NO_READINGS[1:]:
                self.assertIs(is_reading(form, (), thing), False, thing)

    def test_not_taken(self):
        for text in ("a", "1.. a", "[ a 0.. b ]", "( a b )", "[ 0..1 a 1..2 b ]", "2..2 [ a ]"):
            form = read_form(text)
            self.assertIs(takes(form, ()), False)
            self.assertEqual(how_many(form, ()), 0)
            self.assertEqual(one_reading(form, ()), ("none",))
            self.assertEqual(all_readings(form, (), 1), [])
            for thing in NO_READINGS:
                self.assertIs(is_reading(form, (), thing), False, thing)

    def test_leaves(self):
        self.assertEqual(leaves_read(A, None), [])
        self.assertEqual(leaves_read(read_form("0.. a"), None), [])


class EachKind(unittest.TestCase):

    def told(self, text, row, expected):
        form = read_form(text)
        self.assertEqual(sorted(all_readings(form, row_of(row), 1000), key=repr), sorted(expected, key=repr))
        self.assertEqual(how_many(form, row_of(row)), len(expected))

    def test_signs(self):
        self.told("a", "a", [LEAF])
        self.told("a", "b", [])
        self.told("a", "aa", [])
        self.assertIs(takes(("sign", "ab"), ("ab",)), True)
        self.assertIs(takes(("sign", "ab"), ("a", "b")), False)
        self.assertIs(takes(("sign", "ab"), ("a",)), False)

    def test_rows(self):
        self.told("[ a b ]", "ab", [("row", ((0, LEAF), (1, LEAF)))])
        self.told("[ a b ]", "ba", [])
        self.told("[ a b ]", "a", [])
        self.told("[ a b ]", "abb", [])
        self.told("[ ]", "a", [])
        self.told("[ [ ] a [ ] ]", "a", [("row", ((1, LEAF),))])
        self.told("[ 0..1 a 0..1 b ]", "b", [("row", ((1, ("times", (LEAF,))),))])
        self.told("[ 0..1 a 0..1 a ]", "a", [("row", ((0, ("times", (LEAF,))),)), ("row", ((1, ("times", (LEAF,))),))])
        self.told("[ [ 0..1 a ] [ 0..1 [ ] ] ]", "a", [("row", ((0, ("row", ((0, ("times", (LEAF,))),))),))])

    def test_picks_of_like_parts(self):
        self.told("( a a a )", "a", [("pick", 0, LEAF), ("pick", 1, LEAF), ("pick", 2, LEAF)])
        self.told("( a b a )", "b", [("pick", 1, LEAF)])
        self.told("( [ ] 0..1 a )", "a", [("pick", 1, ("times", (LEAF,)))])
        self.told("2..2 ( a a )", "aa", [("times", (("pick", one, LEAF), ("pick", other, LEAF)))
                                         for one, other in product((0, 1), repeat=2)])

    def test_times(self):
        for many in range(1, 16):
            row = "a" * many
            reading = ("times", (LEAF,) * many)
            for low in (0, 1, 2, 5, 11, 12):
                self.told(str(low) + ".. a", row, [reading] if many >= low else [])
                for high in (1, 2, 5, 11, 12):
                    if high >= low:
                        text = str(low) + ".." + str(high) + " a"
                        self.told(text, row, [reading] if low <= many <= high else [])

    def test_fewer_rounds_than_low(self):
        maybe = ("times", (LEAF,))
        self.told("3..4 0..1 a", "a", [("times", (maybe,))])
        self.told("3..4 0..1 a", "aaaa", [("times", (maybe,) * 4)])
        self.told("3..4 0..1 a", "aaaaa", [])
        self.told("12..12 ( [ ] a )", "aa", [("times", (("pick", 1, LEAF),) * 2)])
        self.told("5.. [ 0..1 a ]", "a", [("times", (("row", ((0, maybe),)),))])
        self.told("2..2 [ 0..1 a b ]", "b", [])
        self.told("3.. ( a b )", "ab", [])

    def test_rounds_have_signs(self):
        self.told("0.. 0.. a", "aa", [("times", (("times", (LEAF, LEAF)),)),
                                      ("times", (("times", (LEAF,)), ("times", (LEAF,))))])
        self.told("2..3 [ ]", "a", [])
        self.told("1..12 0..1 a", "a", [("times", (("times", (LEAF,)),))])

    def test_leaves_read(self):
        form = read_form("[ 0.. ( a b ) 2..3 c ]")
        _, reading = one_reading(form, row_of("bacc"))
        self.assertEqual(leaves_read(form, reading), [(0, 0, 1), (0, 0, 0), (1, 0), (1, 0)])
        self.assertEqual(leaves_read(A, LEAF), [()])
        self.assertEqual(leaves_read(read_form("( a a )"), ("pick", 1, LEAF)), [(1,)])

    def test_by_names(self):
        self.assertIs(takes(form=A, row=("a",)), True)
        self.assertEqual(how_many(form=A, row=("a",)), 1)
        self.assertEqual(one_reading(form=A, row=("a",)), ("read", LEAF))
        self.assertEqual(all_readings(form=A, row=("a",), most=1), [LEAF])
        self.assertIs(is_reading(form=A, row=("a",), thing=LEAF), True)
        self.assertEqual(leaves_read(form=A, reading=LEAF), [()])

    def test_defined_there(self):
        for function in (takes, how_many, one_reading, all_readings, is_reading, leaves_read):
            self.assertEqual(function.__module__, readings_file.__name__)

    def test_told_lists_are_the_askers_own(self):
        form = read_form("( a a )")
        first = all_readings(form, ("a",), 5)
        kept = list(first)
        first.clear()
        self.assertEqual(all_readings(form, ("a",), 5), kept)
        empty = all_readings(read_form("0..1 a"), (), 5)
        empty.append(LEAF)
        self.assertEqual(all_readings(read_form("0..1 a"), (), 5), [None])
        for reading in (None, ("pick", 1, LEAF)):
            told = leaves_read(form, reading)
            told.append((9,))
            self.assertEqual(leaves_read(form, reading), told[:-1])


class Limits(unittest.TestCase):

    def test_a_thousand(self):
        form = read_form("[ ( a a ) ( a a a a a ) ( a a a a a ) ( a a a a a ) ( a a a a ) ]")
        row = ("a",) * 5
        self.assertEqual(how_many(form, row), 1000)
        told = all_readings(form, row, 1000)
        self.assertEqual(len(told), 1000)
        self.assertEqual(len(set(told)), 1000)
        for reading in told:
            self.assertIs(is_reading(form, row, reading), True)
        self.refused(form, row, 999)
        self.refused(form, row, 1)

    def test_one(self):
        form = read_form("( a a )")
        self.refused(form, ("a",), 1)
        self.assertEqual(len(all_readings(form, ("a",), 2)), 2)
        self.assertEqual(all_readings(form, ("b",), 1), [])

    def test_far_too_many(self):
        self.refused(read_form("0.. ( a a )"), ("a",) * 60, 1000)
        self.refused(read_form("0.. 0.. 0.. a"), ("a",) * 60, 1000)

    def test_few_of_a_long_row(self):
        form = read_form("[ 0.. a 0.. a ]")
        told = all_readings(form, ("a",) * 60, 61)
        self.assertEqual(len(set(told)), 61)
        self.refused(form, ("a",) * 60, 60)
        form = read_form("[ 0.. 0..12 a b 0.. 0.. a 0..1 a ]")
        row = ("a", "a", "a", "a", "b", "a", "a", "a")
        told = all_readings(form, row, how_many(form, row))
        self.assertEqual(sorted(told, key=repr), sorted(readings(form, row), key=repr))

    def refused(self, form, row, most):
        with self.assertRaises(TooMany) as caught:
            all_readings(form, row, most)
        self.assertEqual(caught.exception.most, most)
        self.assertIsInstance(caught.exception, WayError)


class LongRows(unittest.TestCase):

    def test_powers(self):
        # 11..12 rounds of 5..6: twelve of 5, or eleven of which five are of 6, so 1 + 462.
        row = ("a",) * 60
        for text, many in [("0.. a", 1), ("0.. ( a a )", 2 ** 60), ("0.. ( a a a )", 3 ** 60), ("0.. 1.. a", 2 ** 59),
                           ("1.. 0.. a", 2 ** 59), ("0.. 0.. 0.. a", 3 ** 59), ("[ 0.. a 0.. a ]", 61),
                           ("[ 0.. ( a a ) 0.. a ]", 2 ** 61 - 1), ("12..12 5..5 a", 1), ("12..12 5..5 ( a a )", 2 ** 60),
                           ("12.. 0.. a", 2 ** 59), ("2..2 1.. a", 59), ("2.. 1.. a", 2 ** 59 - 1), ("1..2 1.. a", 60),
                           ("3.. 1.. a", 2 ** 59 - 60), ("0..12 1..4 a", 0), ("0..12 1..5 a", 1), ("11..12 5..6 a", 463),
                           ("b", 0), ("0.. ( a a a a a a a a )", 8 ** 60)]:
            form = read_form(text)
            self.assertEqual(how_many(form, row), many, text)
            self.assertEqual(takes(form, row), many > 0)
            one = one_reading(form, row)
            if many > 0:
                self.assertEqual(one[0], "read")
                self.assertIs(is_reading(form, row, one[1]), True)
                self.assertEqual(len(leaves_read(form, one[1])), 60)
            else:
                self.assertEqual(one, ("none",))

    def test_a_large_form(self):
        group = "[ 0..12 0..12 a 0..12 0..12 a 0..12 0..12 a 0..12 0..12 a 0..12 0..12 a 0..12 0..12 a ]"
        form = read_form("0..12 [ " + " ".join([group] * 3) + " ]")
        row = ("a",) * 60
        self.assertIs(is_form(form), True)
        self.assertGreater(how_many(form, row), 10 ** 60)
        self.assertIs(is_reading(form, row, one_reading(form, row)[1]), True)


class ToldForms(unittest.TestCase):
    """Forms and rows beyond the bounds may be handed in, too."""

    def test_many_parts(self):
        form = ("row", (("times", A, 0, 1),) * 20)
        self.assertEqual(how_many(form, ("a",)), 20)
        self.assertEqual(how_many(form, ("a",) * 10), 184756)
        self.assertEqual(len(all_readings(form, ("a",) * 19, 20)), 20)
        form = ("pick", tuple(("sign", "s" + letter) for letter in "abcdefghij"))
        self.assertEqual(one_reading(form, ("sj",)), ("read", ("pick", 9, LEAF)))

    def test_deep(self):
        form = A
        for _ in range(99):
            form = ("times", ("row", (A, form)), 0, 1)
        # The innermost row has two signs, so 99 signs are too many without it and too few with it.
        for many, right in [(1, 1), (50, 1), (98, 1), (99, 0), (100, 1), (101, 0)]:
            row = ("a",) * many
            self.assertEqual(how_many(form, row), right, many)
            one = one_reading(form, row)
            self.assertEqual(one[0], "read" if right else "none")
            if right:
                self.assertIs(is_reading(form, row, one[1]), True)
                self.assertIs(is_reading(form, row[1:], one[1]), False)
                last = (0, 1) * 99 if many == 100 else (0, 1) * (many - 1) + (0, 0)
                self.assertEqual(leaves_read(form, one[1])[-1], last)

    def test_very_deep(self):
        form = A
        for _ in range(2000):
            form = ("pick", (form,))
        _, reading = one_reading(form, ("a",))
        self.assertIs(is_reading(form, ("a",), reading), True)
        self.assertEqual(leaves_read(form, reading), [(0,) * 2000])

    def test_long_rows(self):
        form = read_form("8..8 7..7 7..7 a")
        row = ("a",) * 392
        self.assertEqual(how_many(form, row), 1)
        self.assertEqual(how_many(form, row[1:]), 0)
        self.assertIs(is_reading(form, row, one_reading(form, row)[1]), True)
        self.assertEqual(how_many(read_form("0.. 0.. a"), ("a",) * 200), 2 ** 199)


class Anything(unittest.TestCase):

    def test_deep_things(self):
        form = read_form("0.. 0.. 0.. a")
        for make in (lambda thing: (thing,), lambda thing: [thing], lambda thing: ("times", (thing,)),
                     lambda thing: ("times", (thing, thing)), lambda thing: (thing, thing),
                     lambda thing: ("row", ((0, thing),)), lambda thing: ("pick", 0, thing)):
            thing = LEAF
            for _ in range(38):
                thing = make(thing)
            for row in ((), ("a",), ("a",) * 60):
                self.assertIs(is_reading(form, row, thing), False)

    def test_far_more_than_the_row(self):
        thing = LEAF
        for _ in range(12):
            thing = ("row", tuple((k, thing) for k in range(8)))
        self.assertIs(is_reading(("row", (A,) * 8), ("a",) * 60, thing), False)
        rounds = LEAF
        for _ in range(3):
            rounds = ("times", (rounds,) * 100000)
        self.assertIs(is_reading(read_form("0.. 0.. 0.. a"), ("a",) * 60, rounds), False)

    def test_things_of_other_kinds(self):
        for text, row in [("a", "a"), ("( a b )", "b"), ("[ a b ]", "ab"), ("0.. a", "aa"), ("[ 0..1 a ( a b ) ]", "ab")]:
            form = read_form(text)
            right = readings(form, row_of(row))
            for thing in NO_READINGS:
                self.assertIs(is_reading(form, row_of(row), thing), thing in right, (text, thing))

    def test_numbers_of_parts(self):
        form = read_form("( b a a )")
        for number, right in [(1, True), (2, True), (0, False), (3, False), (-1, False), (-2, False), (True, False),
                              ("1", False), (None, False), ((1,), False), (10 ** 30, False)]:
            self.assertIs(is_reading(form, ("a",), ("pick", number, LEAF)), right, number)
        form = read_form("[ 0..1 a 0..1 a ]")
        maybe = ("times", (LEAF,))
        for number, right in [(0, True), (1, True), (2, False), (-1, False), (True, False), (False, False),
                              ("0", False), (None, False)]:
            self.assertIs(is_reading(form, ("a",), ("row", ((number, maybe),))), right, number)
        self.assertIs(is_reading(form, ("a", "a"), ("row", ((0, maybe), (1, maybe)))), True)
        for pairs in [((1, maybe), (0, maybe)), ((0, maybe), (0, maybe)), ((1, maybe), (1, maybe)),
                      [(0, maybe), (1, maybe)], ([0, maybe], [1, maybe]), ((0, maybe), (True, maybe))]:
            self.assertIs(is_reading(form, ("a", "a"), ("row", pairs)), False, pairs)

    def test_kinds_in_the_place_of_others(self):
        for text, row, rest in [("( a b )", "a", (0, LEAF)), ("[ a 0..1 b ]", "a", (((0, LEAF),),)),
                                ("1..2 a", "a", ((LEAF,),)), ("a", "a", ())]:
            form = read_form(text)
            for word in ("row", "pick", "times", "leaf", "sign", "", None, 0):
                right = word == {"sign": "leaf"}.get(form[0], form[0])
                self.assertIs(is_reading(form, row_of(row), (word, *rest)), right, (text, word))

    def test_numbers_of_rounds(self):
        for low, high in [(0, 1), (1, 1), (0, 3), (2, 2), (2, 3), (3, None), (0, None), (12, 12), (11, None)]:
            for part, reading in [(A, LEAF), (("times", A, 0, 1), ("times", (LEAF,)))]:
                form = ("times", part, low, high)
                for signs in range(1, 15):
                    right = (high is None or signs <= high) and (signs >= low or part != A)
                    self.assertIs(is_reading(form, ("a",) * signs, ("times", (reading,) * signs)), right)
                    for rounds in (0, signs - 1, signs + 1):
                        self.assertIs(is_reading(form, ("a",) * signs, ("times", (reading,) * rounds)), False)

    def test_no_reading_within_one_is_without_signs(self):
        maybe = read_form("0..1 a")
        for part, without in [(("row", (maybe,)), ("row", ())), (maybe, ("times", ())), (EMPTY, ("row", ())),
                              (("pick", (EMPTY, B)), ("pick", 0, None)), (("pick", (EMPTY, B)), ("pick", 0, ("row", ()))),
                              (maybe, None), (("times", EMPTY, 1, 2), ("times", (None,))), (("row", (maybe,)), None)]:
            form = ("row", (part, B))
            self.assertIs(is_reading(form, ("b",), ("row", ((1, LEAF),))), True)
            self.assertIs(is_reading(form, ("b",), ("row", ((0, without), (1, LEAF)))), False, without)
            form = ("row", (B, part))
            self.assertIs(is_reading(form, ("b",), ("row", ((0, LEAF),))), True)
            self.assertIs(is_reading(form, ("b",), ("row", ((0, LEAF), (1, without)))), False, without)
            form = ("times", ("pick", (part, B)), 0, None)
            right = ("pick", 1, LEAF)
            self.assertIs(is_reading(form, ("b",), ("times", (right,))), True)
            self.assertIs(is_reading(form, ("b",), ("times", (right, ("pick", 0, without)))), False, without)
            self.assertIs(is_reading(form, ("b",), ("times", (("pick", 0, without), right))), False, without)

    def test_parts_that_must_take_signs(self):
        form = read_form("[ 0..1 a b 0..1 a ]")
        self.assertIs(is_reading(form, ("b",), ("row", ((1, LEAF),))), True)
        self.assertIs(is_reading(form, ("a",), ("row", ((0, ("times", (LEAF,))),))), False)
        self.assertIs(is_reading(form, ("a",), ("row", ((2, ("times", (LEAF,))),))), False)


if __name__ == "__main__":
    unittest.main()
