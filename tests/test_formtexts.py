import unittest
from itertools import product

from soleway import formtexts
from soleway.errors import NoText, WayError
from soleway.forms import is_form, pieces
from soleway.formtexts import form_text, read_form
from plainly import A, B, small_forms

EMPTY = ("row", ())


def texts_of_words(most):
    """All texts of up to so many words that write forms, over few words."""
    whole = {1: {("a",)}}
    for many in range(2, most + 1):
        whole[many] = {("1..2",) + form for form in whole[many - 1]}
        for parts in behind_one_another(whole, many - 2, 8):
            whole[many].add(("[",) + parts + ("]",))
            if parts:
                whole[many].add(("(",) + parts + (")",))
    return [words for many in whole for words in whole[many]]


def behind_one_another(whole, words, parts):
    """The word tuples of so many words that are forms, at most so many, one behind another."""
    if words == 0:
        return {()}
    told = set()
    if parts > 0:
        for first in range(1, words + 1):
            for rest in behind_one_another(whole, words - first, parts - 1):
                told.update(form + rest for form in whole.get(first, ()))
    return told


class Written(unittest.TestCase):

    def test_as_the_document_says(self):
        form = ("row", (("times", ("pick", (A, B)), 0, None), ("times", ("sign", "c"), 2, 3)))
        self.assertEqual(form_text(form), "[ 0.. ( a b ) 2..3 c ]")
        self.assertEqual(read_form("[ 0.. ( a b ) 2..3 c ]"), form)

    def test_each_kind(self):
        for text, form in [
                ("a", A), ("abcdef", ("sign", "abcdef")), ("[ ]", EMPTY), ("[ a ]", ("row", (A,))),
                ("[ a b ]", ("row", (A, B))), ("( a )", ("pick", (A,))), ("( a a )", ("pick", (A, A))),
                ("( [ ] )", ("pick", (EMPTY,))), ("0..1 a", ("times", A, 0, 1)), ("0.. a", ("times", A, 0, None)),
                ("12.. a", ("times", A, 12, None)), ("12..12 a", ("times", A, 12, 12)),
                ("1..1 2..2 3..3 a", ("times", ("times", ("times", A, 3, 3), 2, 2), 1, 1)),
                ("[ 0..1 [ ] 1.. ( a [ b ] ) ]",
                 ("row", (("times", EMPTY, 0, 1), ("times", ("pick", (A, ("row", (B,)))), 1, None)))),
                ("[ a a a a a a a a ]", ("row", (A,) * 8)), ("( a a a a a a a a )", ("pick", (A,) * 8)),
                ("[ 0..1 a 0..1 a 0..1 a 0..1 a 0..1 a 0..1 a 0..1 a 0..1 a ]", ("row", (("times", A, 0, 1),) * 8)),
                ("[ times row pick sign ]", ("row", tuple(("sign", s) for s in ("times", "row", "pick", "sign"))))]:
            self.assertEqual(form_text(form), text)
            self.assertEqual(read_form(text), form)
        self.assertEqual(form_text(form=A), "a")
        self.assertEqual(read_form(text="a"), A)

    def test_all_counts(self):
        for low in range(13):
            self.assertEqual(form_text(("times", A, low, None)), str(low) + ".. a")
            self.assertEqual(read_form(str(low) + ".. a"), ("times", A, low, None))
            for high in range(max(low, 1), 13):
                text = str(low) + ".." + str(high) + " a"
                self.assertEqual(form_text(("times", A, low, high)), text)
                told = read_form(text)
                self.assertEqual(told, ("times", A, low, high))
                self.assertIs(type(told[2]), int)
                self.assertIs(type(told[3]), int)

    def test_back_and_forth(self):
        for form in small_forms():
            self.assertEqual(read_form(form_text(form)), form)
            self.assertNotIn("  ", form_text(form))

    def test_told_forms_are_written(self):
        form = ("row", tuple(("sign", "s" + letter) for letter in "abcdefghij"))
        self.assertEqual(form_text(form), "[ sa sb sc sd se sf sg sh si sj ]")
        form = A
        for _ in range(1000):
            form = ("times", ("row", (A, form)), 0, 1)
        self.assertEqual(form_text(form), "0..1 [ a " * 1000 + "a" + " ]" * 1000)

    def test_defined_there(self):
        for function in (form_text, read_form):
            self.assertEqual(function.__module__, formtexts.__name__)


class Refused(unittest.TestCase):

    def refused(self, text, at):
        with self.assertRaises(NoText, msg=text) as caught:
            read_form(text)
        self.assertEqual(caught.exception.at, at, text)
        self.assertIs(type(caught.exception.at), int)
        self.assertIsInstance(caught.exception, WayError)

    def test_words_that_are_no_forms(self):
        for word in ("A", "abcdefg", "a1", "1a", "1", "12", "0", "..", "..3", ".", "...", "0.", "0.1", "0...1", "1..2..",
                     "1..2..3", "13..", "0..13", "13..13", "12..13", "100..", "2..1", "12..11", "1..0", "0..0", "00..1",
                     "0..01", "01..2", "1..02", "00..", "-1..2", "+1..2", "1..-2", "1..+2", "1..None", "a..b", "0..a",
                     "a..", "[]", "()", "[a]", "][", "[a", "a]", "{", "}", "<", "a,b", ",", "-", "~", "!", "*", "0..1a",
                     "1..2]", "0..,", "\n", "\t", "a\n", "\na", "a\t", "\ta", "a\nb", "[\n", "]\n", "0..\n", "0..1\n",
                     "a\r", "a\x0b", "1 ..2".replace(" ", "\t")):
            self.refused(word, 0)
            self.refused("[ a " + word + " ]", 2)
            self.refused("[ a ( b " + word, 4)
            self.refused("0.. " + word, 1)
            self.refused("a " + word, 1)

    def test_ends_too_soon(self):
        for text in ("[", "(", "0..", "0..1", "[ a", "( a", "( a b", "[ ( a )", "[ 0..", "1..2 3..4", "0.. [ a",
                     "( [ ( [ 0.. ( a ) ] )", "[ a a a a a a a a"):
            self.refused(text, len(text.split(" ")))

    def test_goes_on_too_long(self):
        self.refused("a a", 1)
        self.refused("a b c d", 1)
        self.refused("a ]", 1)
        self.refused("a [ ]", 1)
        self.refused("[ ] ]", 2)
        self.refused("[ a ] )", 3)
        self.refused("( a ) 0..", 3)
        self.refused("0.. a b", 2)
        self.refused("0.. 1.. [ a ] b", 5)

    def test_brackets(self):
        self.refused("]", 0)
        self.refused(")", 0)
        self.refused("( )", 1)
        self.refused("[ ( ) ]", 2)
        self.refused("[ )", 1)
        self.refused("( ]", 1)
        self.refused("[ a )", 2)
        self.refused("( a ]", 2)
        self.refused("[ ( a ] )", 3)
        self.refused("[ 0.. ]", 2)
        self.refused("( 0.. )", 2)
        self.refused("( a 0.. )", 3)
        self.refused("1..2 ]", 1)

    def test_blanks(self):
        self.refused("", 0)
        self.refused(" ", 0)
        self.refused("  ", 0)
        self.refused(" a", 0)
        self.refused("a ", 1)
        self.refused("a  ", 1)
        self.refused("[  a ]", 1)
        self.refused("[ a  b ]", 2)
        self.refused("[ a ] ", 3)
        self.refused("0..  a", 1)
        self.refused("[ a b  ", 3)

    def test_line_ends_and_tabs(self):
        self.refused("\n", 0)
        self.refused("a\n", 0)
        self.refused("[ a ]\n", 2)
        self.refused("[ a\nb ]", 1)
        self.refused("[\ta ]", 0)
        self.refused("[ a \t b ]", 2)
        self.refused("[ a b ] \n", 4)
        self.refused("0..\na", 0)

    def test_nine_parts(self):
        nine = "[ " + "a " * 9 + "]"
        self.refused(nine, 9)
        self.refused("[ " + "a " * 8 + "[ a ] ]", 9)
        self.refused("[ " + "a " * 8 + "0..1 a ]", 9)
        self.refused("[ " + "a " * 8 + "( a ) ]", 9)
        self.refused("[ " + "a " * 8 + ")", 9)
        self.refused("( " + "a " * 9 + ")", 9)
        self.refused("( " + "[ ] " * 9 + ")", 17)
        self.refused("[ " + "0.. a " * 9 + "]", 17)
        self.refused("[ a " + nine + " ]", 11)
        self.assertEqual(pieces(read_form("[ " + "0.. a " * 8 + "]")), 17)

    def test_too_many_pieces(self):
        eights = "[ a a a a a a a a ] " * 6
        whole = "[ " + eights + "[ a a a a ] ]"
        self.assertEqual(pieces(read_form(whole)), 60)
        text = "[ " + eights + "[ a a a a a ] ]"
        self.refused(text, len(text.split(" ")))
        text = "0..1 " + whole
        self.refused(text, len(text.split(" ")))
        self.refused(text + " a", len(text.split(" ")))
        self.refused(text.replace("a ] ]", "a ] A ]"), len(text.split(" ")) - 1)
        text = "[ " + eights + eights + "]"
        self.refused(text, 1 + 8 * 10)
        text = "( " + ("[ " + eights + "] ") * 8 + ")"
        self.refused(text, len(text.split(" ")))

    def test_too_deep(self):
        for opener, closer in (("[ ", " ]"), ("( ", " )")):
            self.assertEqual(pieces(read_form(opener * 11 + "a" + closer * 11)), 12)
            for deep in (12, 13, 20, 30, 60, 240):
                text = opener * deep + "a" + closer * deep
                self.refused(text, 2 * deep + 1)
                self.refused(text[:-2], 2 * deep)
                self.refused(text + closer, 2 * deep + 1)
        self.refused("[ " * 13 + "A", 13)

    def test_too_many_times_within_one_another(self):
        self.assertEqual(pieces(read_form("1..2 1..2 1..2 a")), 4)
        self.refused("1..2 1..2 1..2 1..2 a", 5)
        self.refused("1..2 [ 1..2 ( 1..2 [ 1..2 a ] ) ]", 11)
        self.refused("0.. " * 30 + "a", 31)
        self.refused("0.. " * 30 + "]", 30)
        self.refused("0.. " * 30 + "a a", 31)

    def test_too_many_unlike_signs(self):
        self.assertEqual(pieces(read_form("[ a b c d e f a ]")), 8)
        self.refused("[ a b c d e f g ]", 9)
        self.refused("( a b c ( d e f ( aa ) ) )", 13)
        self.refused("[ a b c d e f g", 8)

    def test_all_texts_of_few_words(self):
        right = texts_of_words(11)
        begun = {words[:many] for words in right for many in range(len(words) + 1)}
        right = set(right)
        for many in range(1, 6):
            for words in product(("a", "[", "]", "(", ")", "1..2", ""), repeat=many):
                text = " ".join(words)
                wrong = [at for at in range(many) if words[:at + 1] not in begun]
                if wrong:
                    self.refused(text, wrong[0])
                elif words in right and not self.beyond(words):
                    self.assertIs(is_form(read_form(text)), True)
                    self.assertEqual(form_text(read_form(text)), text)
                else:
                    self.refused(text, many)

    def beyond(self, words):
        """Whether a text of few words that writes a form has too many times within one another."""
        return words[:4] == ("1..2",) * 4


if __name__ == "__main__":
    unittest.main()
