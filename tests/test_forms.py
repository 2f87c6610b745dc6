import unittest

from soleway import forms
from soleway.forms import (is_form, is_plain, is_row, is_sign, leaves, may_nothing, piece_at, pieces, places,
                           signs_of)
from plainly import A, B, small_forms
import plainly

EMPTY = ("row", ())
NO_TEXTS = (0, 1, 7, -1, 10 ** 40, True, False, None, (), [], ("a",), ["a"], (("a",),), [[]])


def sign(name):
    return ("sign", name)


def nested(kinds, inner=A):
    """The pieces of these kinds within one another, the first one outermost."""
    form = inner
    for kind in reversed(kinds):
        form = ("times", form, 1, 2) if kind == "times" else (kind, (form,))
    return form


def deep_thing(make, deep=40):
    thing = "a"
    for _ in range(deep):
        thing = make(thing)
    return thing


class Signs(unittest.TestCase):

    def test_signs(self):
        for text in ("a", "z", "m", "az", "abc", "abcdef", "zzzzzz", "times", "row"):
            self.assertIs(is_sign(text), True, text)

    def test_none(self):
        for text in ("", "abcdefg", "aaaaaaaaaaaa", "A", "Z", "aB", "a1", "1", "a b", " ", " a", "a ", "a\n", "\n",
                     "\na", "a\r", "a\t", "`", "{", "a`", "{a", "-", "a_b", "\u00e9", "a\u00e9", "\u00df", "\u0430",
                     "[", "]", "(", ")", "0..", "\x00"):
            self.assertIs(is_sign(text), False, repr(text))
        for thing in NO_TEXTS:
            self.assertIs(is_sign(thing), False, repr(thing))
        self.assertIs(is_sign(deep_thing(lambda thing: (thing,))), False)

    def test_by_name(self):
        self.assertIs(is_sign(thing="a"), True)


class Rows(unittest.TestCase):

    def test_rows(self):
        for row in ((), ("a",), ("a", "a"), ("abcdef", "b"), ("a", "b", "c", "d", "e", "f", "g"), ("a",) * 60,
                    ("a",) * 61, ("a",) * 500):
            self.assertIs(is_row(row), True, row)

    def test_none(self):
        for thing in ([], ["a"], "a", "", "ab", None, True, False, 0, 3, ("",), ("a", ""), ("abcdefg",), ("a", "A"),
                      ("a\n",), ("a", "b\n"), ("\n",), ("a", 1), (0,), (True,), (None,), ("a", None), ((),), (("a",),),
                      ("a", ("b",)), (["a"],), ([],), ("a b",), ("a",) * 60 + (1,)):
            self.assertIs(is_row(thing), False, repr(thing))
        self.assertIs(is_row(deep_thing(lambda thing: (thing,), 2)), False)
        self.assertIs(is_row(deep_thing(lambda thing: (thing,))), False)
        self.assertIs(is_row(deep_thing(lambda thing: [thing])), False)

    def test_by_name(self):
        self.assertIs(is_row(thing=("a",)), True)


class Forms(unittest.TestCase):

    def yes(self, *things):
        for at, thing in enumerate(things):
            self.assertIs(is_form(thing), True, at)

    def no(self, *things):
        # A thing is not shown where it fails: some have far too much within them.
        for at, thing in enumerate(things):
            self.assertIs(is_form(thing), False, at)

    def test_by_name(self):
        self.assertIs(is_form(thing=A), True)

    def test_signs(self):
        self.yes(A, sign("abcdef"))
        self.no(sign(""), sign("abcdefg"), sign("A"), sign("a\n"), sign("a b"), sign(1), sign(True), sign(None),
                sign(("a",)), sign(A), sign(["a"]), ("sign",), ("sign", "a", "b"), ("sign", "a", None))

    def test_no_forms_at_all(self):
        self.no("a", "", "sign", 0, 1, 12, True, False, None, (), [], ("a",), ("a", "b"), ["sign", "a"], [A], (A,),
                (A, A), ("row",), ("pick",), ("times",), ("times", A), ("times", A, 0), ("round", (A,)), ("Sign", "a"),
                ("", ()), (None, "a"), (True, "a"), (0, ()), (("sign",), "a"), (["sign"], "a"), ("sign\n", "a"))
        self.no(deep_thing(lambda thing: (thing,)), deep_thing(lambda thing: [thing]),
                deep_thing(lambda thing: ("row", (thing,)), 20), deep_thing(lambda thing: (thing, thing)),
                deep_thing(lambda thing: [thing, thing]))

    def test_rows(self):
        self.yes(EMPTY, ("row", (A,)), ("row", (A, B)), ("row", (A,) * 8), ("row", (EMPTY,) * 8))
        self.no(("row", (A,) * 9), ("row", (EMPTY,) * 9), ("row", (A,) * 60), ("row", [A]), ("row", []), ("row", A),
                ("row", "a"), ("row", None), ("row", 0), ("row", True), ("row", (A, "a")), ("row", (A, None)),
                ("row", (A, 1)), ("row", (A, True)), ("row", ((),)), ("row", ((A,),)), ("row", ([A],)),
                ("row", (["sign", "a"],)), ("row", (A,), A), ("row", A, B), ["row", (A,)], ("row", (A, sign("B"))))

    def test_picks(self):
        self.yes(("pick", (A,)), ("pick", (A, A)), ("pick", (A, EMPTY)), ("pick", (A,) * 8))
        self.no(("pick", ()), ("pick", (A,) * 9), ("pick", [A]), ("pick", []), ("pick", A), ("pick", None),
                ("pick", (A, ())), ("pick", (A, None)), ("pick", (A,), 0), ("pick", ("a",)), ["pick", (A,)],
                ("row", (("pick", ()),)))

    def test_counts(self):
        for low in range(-2, 16):
            self.assertIs(is_form(("times", A, low, None)), 0 <= low <= 12, low)
            for high in range(-2, 16):
                right = 0 <= low <= 12 and 1 <= high <= 12 and low <= high
                self.assertIs(is_form(("times", A, low, high)), right, (low, high))

    def test_counts_that_are_none(self):
        self.no(("times", A, True, 2), ("times", A, False, 1), ("times", A, 0, True), ("times", A, 1, True),
                ("times", A, False, None), ("times", A, True, None), ("times", A, True, True), ("times", A, 0, False),
                ("times", A, None, 1), ("times", A, None, None), ("times", A, "0", 1), ("times", A, 0, "1"),
                ("times", A, (0,), 1), ("times", A, 0, (1,)), ("times", A, [0], None), ("times", A, 10 ** 30, None))

    def test_times(self):
        self.yes(("times", A, 0, 1), ("times", EMPTY, 2, 3), ("times", ("times", A, 0, None), 12, 12))
        self.no(("times", (A,), 0, 1), ("times", "a", 0, 1), ("times", None, 0, 1), ("times", [A], 0, 1),
                ("times", A, 0, 1, 2), ("times", A, B, 0, 1), ["times", A, 0, 1], ("times", 0, 1, A),
                ("times", (), 0, 1))

    def test_pieces_at_the_bound(self):
        eights = tuple(("row", (A,) * 8) for _ in range(6))
        self.assertEqual(pieces(("row", eights + (("row", (A,) * 4),))), 60)
        for kind in ("row", "pick"):
            self.yes((kind, eights + (("row", (A,) * 4),)), (kind, (("pick", (A,) * 4),) + eights))
            self.no((kind, eights + (("row", (A,) * 5),)), (kind, (("pick", (A,) * 5),) + eights))
            self.no((kind, eights + (("row", (A,) * 8),) * 2))
        self.yes(("times", ("row", eights + (("row", (A,) * 3),)), 0, 1))
        self.no(("times", ("row", eights + (("row", (A,) * 4),)), 0, 1))

    def test_far_too_many_pieces(self):
        form = A
        for _ in range(11):
            form = ("row", (form,) * 8)
        self.no(form, ("row", (form, sign("B"))), ("times", form, 0, 1))
        for _ in range(8):
            form = ("pick", (form,) * 8)
        self.no(form)

    def test_deep_at_the_bound(self):
        for kind in ("row", "pick"):
            self.yes(nested([kind] * 11), nested([kind] * 11, EMPTY))
            self.no(nested([kind] * 12), nested([kind] * 12, EMPTY), nested([kind] * 13), nested([kind] * 39))
        self.yes(nested(["times", "row", "pick"] * 3 + ["row", "pick"]), ("row", (A, B, nested(["pick"] * 10), A)))
        self.no(nested(["times", "row", "pick"] * 3 + ["row"] * 3), ("row", (A, B, nested(["pick"] * 11), A)))
        self.no(("pick", (nested(["row"] * 11), A)))

    def test_times_within_one_another_at_the_bound(self):
        self.yes(nested(["times"] * 3), nested(["row", "times", "pick", "times", "row", "times"]))
        self.no(nested(["times"] * 4), nested(["times"] * 5), nested(["times", "row", "times", "pick", "times", "times"]),
                nested(["row", "times", "times", "pick", "times", "row", "times"]),
                ("row", (A, nested(["times"] * 4))), ("pick", (nested(["times"] * 4), A)))
        beside = nested(["times"] * 3)
        self.yes(("row", (beside,) * 8), ("times", ("row", (nested(["times"] * 2),) * 8), 0, 1))

    def test_unlike_signs_at_the_bound(self):
        six = tuple(sign(name) for name in "abcdef")
        self.yes(("row", six), ("pick", six + (A, B)), ("row", (("pick", six), ("times", ("row", six), 0, 1))))
        self.no(("row", six + (sign("g"),)), ("pick", (sign("aa"),) + six),
                ("row", (("pick", six), ("times", sign("g"), 0, 1))))

    def test_small_forms(self):
        self.yes(*small_forms())


class Pieces(unittest.TestCase):

    form = ("row", (("times", ("pick", (A, B)), 0, None), EMPTY, ("times", sign("cc"), 2, 3), A))

    def test_pieces(self):
        self.assertEqual(pieces(A), 1)
        self.assertEqual(pieces(EMPTY), 1)
        self.assertEqual(pieces(("times", A, 0, 1)), 2)
        self.assertEqual(pieces(("pick", (A, A, A))), 4)
        self.assertEqual(pieces(self.form), 9)
        self.assertEqual(pieces(form=self.form), 9)

    def test_places(self):
        self.assertEqual(places(A), [()])
        self.assertEqual(places(EMPTY), [()])
        self.assertEqual(places(("times", A, 0, 1)), [(), (0,)])
        self.assertEqual(places(self.form), [(), (0,), (0, 0), (0, 0, 0), (0, 0, 1), (1,), (2,), (2, 0), (3,)])
        self.assertEqual(places(form=("pick", (A, ("row", (A, B)), B))), [(), (0,), (1,), (1, 0), (1, 1), (2,)])

    def test_leaves(self):
        self.assertEqual(leaves(A), [()])
        self.assertEqual(leaves(EMPTY), [])
        self.assertEqual(leaves(("row", (EMPTY, ("times", EMPTY, 0, 1)))), [])
        self.assertEqual(leaves(self.form), [(0, 0, 0), (0, 0, 1), (2, 0), (3,)])
        self.assertEqual(leaves(form=("times", A, 0, 1)), [(0,)])

    def test_order_of_many_parts(self):
        form = ("row", tuple(("pick", (A,) * 12) for _ in range(11)))
        expected = [()]
        for k in range(11):
            expected += [(k,)] + [(k, inner) for inner in range(12)]
        self.assertEqual(places(form), expected)
        self.assertEqual(leaves(form), [place for place in expected if len(place) == 2])

    def test_piece_at(self):
        self.assertEqual(piece_at(self.form, ()), self.form)
        self.assertEqual(piece_at(self.form, (0,)), ("times", ("pick", (A, B)), 0, None))
        self.assertEqual(piece_at(self.form, (0, 0)), ("pick", (A, B)))
        self.assertEqual(piece_at(self.form, (0, 0, 1)), B)
        self.assertEqual(piece_at(self.form, (1,)), EMPTY)
        self.assertEqual(piece_at(form=self.form, place=(2, 0)), sign("cc"))

    def test_all_told_of_pieces_goes_together(self):
        for form in small_forms():
            told = places(form)
            self.assertEqual(len(told), pieces(form))
            self.assertEqual(told, sorted(told))
            self.assertEqual(leaves(form), [place for place in told if piece_at(form, place)[0] == "sign"])
            self.assertEqual(signs_of(form), sorted({piece_at(form, place)[1] for place in leaves(form)}))

    def test_signs_of(self):
        self.assertEqual(signs_of(A), ["a"])
        self.assertEqual(signs_of(EMPTY), [])
        self.assertEqual(signs_of(self.form), ["a", "b", "cc"])
        self.assertEqual(signs_of(form=("row", (B, sign("ab"), A, B, sign("aa"), A))), ["a", "aa", "ab", "b"])

    def test_may_nothing(self):
        maybe = ("times", A, 0, 1)
        for form in (EMPTY, maybe, ("times", A, 0, 12), ("times", A, 0, None), ("times", EMPTY, 3, 4),
                     ("times", maybe, 12, None), ("row", (maybe, EMPTY)), ("row", (maybe,) * 8), ("pick", (A, maybe)),
                     ("pick", (EMPTY, A)), ("pick", (maybe, maybe)), ("row", (("pick", (A, EMPTY)), maybe))):
            self.assertIs(may_nothing(form), True, form)
        for form in (A, ("times", A, 1, 1), ("times", A, 1, None), ("times", A, 12, 12), ("row", (A,)),
                     ("row", (maybe, A)), ("row", (A, EMPTY)), ("row", (maybe, maybe, ("times", A, 2, None))),
                     ("pick", (A,)), ("pick", (A, B)), ("pick", (A, ("row", (maybe, B)))),
                     ("times", ("row", (maybe, A)), 1, 2)):
            self.assertIs(may_nothing(form), False, form)
        self.assertIs(may_nothing(form=EMPTY), True)
        for form in small_forms():
            self.assertIs(may_nothing(form), plainly.may_nothing(form), form)

    def test_is_plain(self):
        for low in range(13):
            for high in [None] + list(range(max(low, 1), 13)):
                plain = (low, high) in [(0, 1), (0, None), (1, None)]
                form = ("times", A, low, high)
                self.assertIs(is_plain(form), plain, (low, high))
                self.assertIs(is_plain(("row", (A, ("times", ("pick", (B, form)), 0, None)))), plain)
                self.assertIs(is_plain(("times", ("times", B, 0, 1), low, high)), plain)
        for form in (A, EMPTY, ("pick", (A, B))):
            self.assertIs(is_plain(form), True)
        self.assertIs(is_plain(form=("times", A, 1, 1)), False)

    def test_told_lists_are_the_askers_own(self):
        for told_of in (places, leaves, signs_of):
            first = told_of(self.form)
            kept = list(first)
            first.append("more")
            first.reverse()
            self.assertEqual(told_of(self.form), kept)
            second = told_of(self.form)
            second.clear()
            self.assertEqual(told_of(self.form), kept)
            self.assertIsNot(told_of(self.form), told_of(self.form))
        self.assertEqual(pieces(self.form), 9)
        self.assertIs(may_nothing(self.form), False)

    def test_defined_there(self):
        for function in (is_sign, is_row, is_form, pieces, places, leaves, piece_at, may_nothing, is_plain, signs_of):
            self.assertEqual(function.__module__, forms.__name__)


class ToldForms(unittest.TestCase):
    """Forms beyond the bounds: what other parts of the program tell may be handed in all the same."""

    def test_many_parts(self):
        form = ("row", tuple(sign("s" + letter) for letter in "abcdefghijklmnopqrst") + (("times", A, 0, 1),))
        self.assertIs(is_form(form), False)
        self.assertEqual(pieces(form), 23)
        self.assertEqual(leaves(form), [(k,) for k in range(20)] + [(20, 0)])
        self.assertEqual(signs_of(form), ["a"] + ["s" + letter for letter in "abcdefghijklmnopqrst"])
        self.assertEqual(piece_at(form, (19,)), sign("st"))
        self.assertIs(may_nothing(form), False)
        self.assertIs(is_plain(form), True)
        self.assertIs(may_nothing(("row", (("times", A, 0, 1),) * 30)), True)

    def test_many_and_deep(self):
        form = A
        for _ in range(99):
            form = ("times", ("row", (A, form)), 0, 1)
        form = ("row", (form, B))
        self.assertIs(is_form(form), False)
        self.assertEqual(pieces(form), 300)
        self.assertEqual(len(places(form)), 300)
        self.assertEqual(places(form)[-2:], [(0,) + (0, 1) * 99, (1,)])
        self.assertEqual(len(leaves(form)), 101)
        self.assertEqual(piece_at(form, (0,) + (0, 1) * 99), A)
        self.assertEqual(signs_of(form), ["a", "b"])
        self.assertIs(may_nothing(form), False)
        self.assertIs(may_nothing(form[1][0]), True)
        self.assertIs(is_plain(form), True)

    def test_very_deep(self):
        form = ("times", A, 2, 2)
        for _ in range(3000):
            form = ("pick", (form,))
        self.assertIs(is_form(form), False)
        self.assertEqual(pieces(form), 3002)
        self.assertEqual(leaves(form), [(0,) * 3001])
        self.assertIs(may_nothing(form), False)
        self.assertIs(is_plain(form), False)


if __name__ == "__main__":
    unittest.main()
