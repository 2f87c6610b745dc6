import unittest

from soleway import desk as desk_file
from soleway.alike import alike
from soleway.desk import Desk
from soleway.errors import NoName, NoRow, NoText, TooWide, WayError
from soleway.forms import pieces
from soleway.formtexts import form_text, read_form
from soleway.made import made_once
from soleway.numbers import many_rows
from soleway.once import once
from soleway.readings import how_many, takes
from soleway.sure import single, sure
from soleway.within import within

TEXTS = {"a": "a", "b": "[ ]", "c": "0.. ( a b )", "d": "[ 0.. ( a b ) 2..3 c ]", "e": "( a a )", "f": "[ 0..1 a a ]",
         "g": "1..2 1..2 a",
         "h": "( [ a b ] [ a c ] )", "i": "[ 0.. ( a b ) a ( a b ) ]", "j": "2..3 a", "k": "0.. a",
         "l": "0..2 ( ab b )",
         "eightlet": "1.. [ a 0..1 b ]", "form": "[ a b ]", "takes": "[ a ( b b ) ]", "none": "none"}
ROWS = ("-", "a", "b", "a a", "a b", "a c", "b a c c", "ab", "ab b", "c c", "none", "z", "abcdef a", "a " * 59 + "a")
WIDE = "12..12 12..12 12..12 a"


def desk_of(texts):
    told = Desk()
    for name, text in texts.items():
        told.say(f"form {name} {text}")
    return told


def yes_or_row(told, word):
    if told[0] == word:
        return "yes"
    return "no " + (" ".join(told[1]) or "-")


class Answers(unittest.TestCase):

    def setUp(self):
        self.desk = desk_of(TEXTS)
        self.forms = {name: read_form(text) for name, text in TEXTS.items()}

    def test_forms_and_texts(self):
        for name, form in self.forms.items():
            self.assertEqual(self.desk.say(f"text {name}"), TEXTS[name])
            self.assertEqual(self.desk.say(f"form {name} {TEXTS[name]}"), str(pieces(form)))
        self.assertEqual(self.desk.say("form x [ 0.. ( a b ) 2..3 c ]"), "7")
        self.assertEqual(self.desk.say("text x"), "[ 0.. ( a b ) 2..3 c ]")

    def test_takes_and_ways(self):
        for name, form in self.forms.items():
            for words in ROWS:
                row = () if words == "-" else tuple(words.split(" "))
                self.assertEqual(self.desk.say(f"takes {name} {words}"), "yes" if takes(form, row) else "no")
                self.assertEqual(self.desk.say(f"ways {name} {words}"), str(how_many(form, row)))
        self.assertEqual([self.desk.say(f"takes a {words}") for words in ("a", "-", "b")], ["yes", "no", "no"])
        self.assertEqual([self.desk.say(f"ways e {words}") for words in ("a", "-", "b")], ["2", "0", "0"])

    def test_once_sure_and_single(self):
        for name, form in self.forms.items():
            for word, function in (("once", once), ("sure", sure), ("single", single)):
                self.assertEqual(self.desk.say(f"{word} {name}"), yes_or_row(function(form), word))
        told = [[self.desk.say(f"{word} {name}") for word in ("once", "sure", "single")] for name in "aefgh"]
        self.assertEqual(told, [["yes"] * 3, ["no a"] * 3, ["no a", "no a", "yes"], ["yes", "no a a", "no a a"],
                                ["no a", "no a", "yes"]])

    def test_alike_and_within(self):
        for name, one in self.forms.items():
            for beside, other in self.forms.items():
                self.assertEqual(self.desk.say(f"alike {name} {beside}"), yes_or_row(alike(one, other), "alike"))
                self.assertEqual(self.desk.say(f"within {name} {beside}"), yes_or_row(within(one, other), "within"))
        self.assertEqual([self.desk.say(row) for row in ("alike a a", "alike a e", "alike a b", "alike a j",
                                                         "within b a",
                                                         "within a k", "within k a", "within l k", "within none a")],
                         ["yes", "yes", "no -", "no a", "no -", "yes", "no -", "no ab", "no none"])
        self.desk.say("form m 1.. ab")
        self.assertEqual(self.desk.say("within m l"), "no ab ab ab")

    def test_made(self):
        for name, form in self.forms.items():
            told = made_once(form)
            self.assertEqual(self.desk.say(f"made {name}"), form_text(told[1]) if told[0] == "made" else "none")
        self.assertEqual([self.desk.say(f"made {name}") for name in "aik"], ["a", "none", "0.. a"])
        self.desk.say("form x " + self.desk.say("made h"))
        self.assertEqual([self.desk.say(row) for row in ("alike x h", "once x", "once h")], ["yes", "yes", "no a"])

    def test_count(self):
        for name, form in self.forms.items():
            for n in (0, 1, 2, 9, 10, 99, 100):
                self.assertEqual(self.desk.say(f"count {name} {n}"), str(many_rows(form, n)))
        self.assertEqual([self.desk.say(f"count c {n}") for n in (0, 3, 100)], ["1", "8", str(2 ** 100)])

    def test_told_again(self):
        desk = Desk()
        self.assertEqual(desk.say("form x a"), "1")
        self.assertEqual(desk.say("form x [ b b ]"), "3")
        self.assertEqual([desk.say(row) for row in ("text x", "takes x a", "takes x b b")], ["[ b b ]", "no", "yes"])

    def test_names_that_are_words_of_rows(self):
        words = ("form", "takes", "ways", "once", "sure", "single", "alike", "within", "made", "count", "text")
        desk = Desk()
        for at, word in enumerate(words):
            self.assertEqual(desk.say(f"form {word} {at % 3}.. {word}"), "2")
        for at, word in enumerate(words):
            self.assertEqual(desk.say(f"text {word}"), f"{at % 3}.. {word}")
            self.assertEqual(desk.say(f"takes {word} {word} {word}"), "yes")
            self.assertEqual(desk.say(f"alike {word} {word}"), "yes")
            self.assertEqual(desk.say(f"count {word} 5"), "1")

    def test_two_desks_by_turns(self):
        one, other = Desk(), Desk()
        one.say("form x a")
        with self.assertRaises(NoName):
            other.say("text x")
        other.say("form x b")
        other.say("form y c")
        self.assertEqual((one.say("text x"), other.say("text x")), ("a", "b"))
        one.say("form x [ ]")
        self.assertEqual((one.say("text x"), other.say("text x")), ("[ ]", "b"))
        with self.assertRaises(NoName):
            one.say("text y")

    def test_by_name_and_where_it_is(self):
        self.assertEqual(Desk().say(row="form x a"), "1")
        self.assertEqual(Desk.__module__, desk_file.__name__)
        self.assertIn("say", vars(Desk))


class Refusals(unittest.TestCase):

    def setUp(self):
        self.desk = desk_of(TEXTS)

    def refused(self, row, error):
        with self.assertRaises(error) as caught:
            self.desk.say(row)
        self.assertIs(type(caught.exception), error, row)
        self.assertIsInstance(caught.exception, WayError)
        # What is refused changes nothing.
        self.assertEqual({name: self.desk.say(f"text {name}") for name in TEXTS}, TEXTS)
        for name in ("x", "y", "zzzzzzzz"):
            with self.assertRaises(NoName):
                self.desk.say(f"text {name}")
        return caught.exception

    def test_no_rows(self):
        for row in ("", " ", "  ", "a", "form", "form a", "form A a", "form a1 a", "form - a", "form ninelette a",
                    "form  a", " form a a",
                    "form  a a", "forms a a", "Form a a", "FORM a a", "takes", "takes a", "takes a ", "takes a  a",
                    "takes a a ",
                    " takes a a", "takes  a a", "takes a a  a", "takes a A", "takes a - a", "takes a a -",
                    "takes a - -", "takes a --",
                    "takes a abcdefg", "takes a a1", "takes A a", "takes ninelette a", "takes a 1", "takes a [",
                    "takes a a\n",
                    "takes a " + "a " * 60 + "a", "ways a", "ways a ", "ways a - -", "ways a A",
                    "ways a " + "a " * 60 + "a",
                    "once", "once ", "once a ", "once a a", "once  a", " once a", "once A", "once ninelette", "once -",
                    "sure", "sure a b",
                    "sure a ", "single", "single a b", "single a ", "alike", "alike a", "alike a ", "alike a a a",
                    "alike a  a", "alike a A",
                    "alike A a", "alike a a ", "alike a ninelette", "within", "within a", "within a a a", "within a -",
                    "within a a ",
                    "within 1 a", "made", "made a a", "made a ", "made A", "count", "count a", "count a ", "count a a",
                    "count a 01",
                    "count a 00", "count a 001", "count a 101", "count a 200", "count a 999", "count a 1000",
                    "count a 0100", "count a -1",
                    "count a +1", "count a 1.", "count a 1 1", "count a 1 ", "count a  1", "count A 1", "count a 1_0",
                    "count a ten",
                    "count a \u0661", "count a \u00b2", "text", "text a a", "text a ", "text A", "text", "ask a",
                    "reader a", "takes\ta a",
                    "form\u00a0x a", "form \u00e4 a", "text a\n", "opened a", "count a 100 "):
            self.refused(row, NoRow)

    def test_no_rows_at_all(self):
        for row in (None, 0, True, (), ("form", "x", "a"), ["text", "a"], [], ("",), b"text a"):
            self.refused(row, NoRow)

    def test_names_and_numbers_at_their_bounds(self):
        self.assertEqual(self.desk.say("form abcdefgh a"), "1")
        self.assertEqual(self.desk.say("takes abcdefgh " + "a " * 59 + "a"), "no")
        self.assertEqual(self.desk.say("count abcdefgh 100"), "0")
        self.assertEqual(self.desk.say("count abcdefgh 0"), "0")

    def test_no_names(self):
        for row in ("takes x a", "takes x -", "ways x a a", "once x", "sure x", "single x", "alike x a", "alike a x",
                    "alike x x", "within x a",
                    "within a x", "made x", "count x 0", "count x 100", "text x", "text eightle", "text forms"):
            self.refused(row, NoName)

    def test_no_texts(self):
        for row, at in [("form x ", 2), ("form x A", 2), ("form x ]", 2), ("form x [", 3), ("form x [ a", 4),
                        ("form x a b", 3),
                        ("form x a ", 3), ("form x [  ]", 3), ("form x  a", 2), ("form x   ", 2), ("form x ( )", 3),
                        ("form x 2..1 a", 2),
                        ("form x 0..0 a", 2), ("form x 01.. a", 2), ("form x 0..13 a", 2), ("form x 2..3", 3),
                        ("form x 2..3 [ a", 5),
                        ("form x [ a ] b", 5), ("form x [ ( a b ] )", 6), ("form x abcdefg", 2),
                        ("form x [ a a a a a a a a a ]", 11),
                        ("form x 1.. 1.. 1.. 1.. a", 7), ("form x ( a b c d e f g )", 11), ("form a A", 2),
                        ("form takes [ ) ]", 3)]:
            self.assertEqual(self.refused(row, NoText).at, at, row)
            with self.assertRaises(NoText) as caught:
                read_form(row.split(" ", 2)[2])
            self.assertEqual(caught.exception.at + 2, at, row)

    def test_the_order_of_refusals(self):
        self.desk.say(f"form wide {WIDE}")
        for row, error in [("takes x A", NoRow), ("alike x A", NoRow), ("alike A x", NoRow), ("count x 101", NoRow),
                           ("form A ]", NoRow),
                           ("form ninelette ]", NoRow), ("once x ", NoRow), ("once wide ", NoRow),
                           ("count wide 101", NoRow),
                           ("alike wide x", NoName), ("alike x wide", NoName), ("within wide x", NoName),
                           ("form wide ]", NoText)]:
            self.refused(row, error)
        self.assertEqual(self.desk.say("text wide"), WIDE)

    def test_what_the_functions_refuse(self):
        self.desk.say(f"form wide {WIDE}")
        self.desk.say("form seven 6..6 a")
        for row in ("once wide", "sure wide", "single wide", "alike wide a", "alike a wide", "within wide a",
                    "within a wide",
                    "made wide", "count wide 0", "made seven"):
            self.refused(row, TooWide)
        self.assertEqual(self.desk.say("takes wide a"), "no")
        self.assertEqual(self.desk.say("ways wide " + "a " * 59 + "a"), "0")
        self.assertEqual(self.desk.say("text wide"), WIDE)
        self.assertEqual(self.desk.say("count seven 6"), "1")


if __name__ == "__main__":
    unittest.main()
