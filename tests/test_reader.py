import unittest

from soleway import reader as reader_file
from soleway.errors import NoSign, NotOnce, TooWide, WayError
from soleway.formtexts import read_form
from soleway.once import once
from soleway.opening import opened
from soleway.reader import Reader
from soleway.readings import leaves_read, one_reading, takes
from soleway.stands import may_come, stands
from paperforms import FOUR_HUNDRED_LISTS, FOUR_HUNDRED_STANDS, WIDE, forms
from plainly import A, rows_up_to

EMPTY = ("row", ())
TEXTS = ("a", "[ ]", "[ a b ]", "0.. ( a b )", "[ 0..1 a b ]", "0.. 0.. a", "2..3 1..2 [ a b ]", "( [ a b ] [ b a ] )",
         "[ 3.. ( a b ) c ]", "2..2 [ 0.. a b a ]", "1..2 1..2 a", "0..2 [ 0..2 a b ]", "3..4 0..1 a")
NO_SIGNS = ("", "A", "abcdefg", "a b", "a1", None, 0, 1, True, ("a",), ["a"], [], (), [[]])


class Readers(unittest.TestCase):

    def forms(self):
        return [read_form(text) for text in TEXTS] + [form for form in forms()[::4] if once(form)[0] == "once"]

    def agrees(self, reader, form, row):
        """Whether a reader that heard a row tells what the functions tell of it."""
        self.assertEqual(reader.heard(), row)
        self.assertIs(type(reader.heard()), tuple)
        self.assertEqual(reader.coming(), may_come(form, row))
        self.assertIs(reader.ends_here(), takes(form, row))
        self.assertEqual(reader.standing(), stands(form, row))
        told = reader.heard_at()
        self.assertIs(type(told), list)
        self.assertEqual(len(told), len(row))
        for many in range(len(row) + 1):
            self.assertEqual({leaf for leaf, _ in stands(form, row[:many])} if many else set(),
                             set(told[many - 1:many] if many else ()))
        if row and takes(form, row):
            self.assertEqual(told, leaves_read(form, one_reading(form, row)[1]), (form, row))

    def test_rows_there_and_back(self):
        for form in self.forms():
            reader = Reader(form)
            for row in rows_up_to("ab", 3):
                before = []
                for at, sign in enumerate(row):
                    if sign not in may_come(form, row[:at]):
                        with self.assertRaises(NoSign):
                            reader.hear(sign)
                        self.agrees(reader, form, row[:at])
                        break
                    before.append(reader.hear(sign))
                    self.assertEqual(reader.heard_at(), before)
                    self.agrees(reader, form, row[:at + 1])
                while before:
                    before.pop()
                    self.assertIsNone(reader.back())
                    self.assertEqual(reader.heard_at(), before)
                    self.agrees(reader, form, row[:len(before)])
                with self.assertRaises(NoSign):
                    reader.back()
                self.agrees(reader, form, ())

    def test_told(self):
        reader = Reader(read_form("[ 0..2 [ a b ] c ]"))
        self.assertEqual((reader.coming(), reader.ends_here(), reader.standing()), (["a", "c"], False, [None]))
        self.assertEqual((reader.heard(), reader.heard_at()), ((), []))
        self.assertEqual(reader.hear("a"), (0, 0, 0))
        self.assertEqual(reader.hear("b"), (0, 0, 1))
        self.assertEqual(reader.hear("a"), (0, 0, 0))
        self.assertEqual(reader.standing(), [((0, 0, 0), (2,))])
        self.assertEqual(reader.coming(), ["b"])
        reader.hear("b")
        self.assertEqual(reader.coming(), ["c"])
        self.assertEqual(reader.hear("c"), (1,))
        self.assertEqual((reader.coming(), reader.ends_here()), ([], True))
        self.assertEqual(reader.heard(), ("a", "b", "a", "b", "c"))
        self.assertEqual(reader.heard_at(), [(0, 0, 0), (0, 0, 1), (0, 0, 0), (0, 0, 1), (1,)])

    def test_several_stands_of_one_leaf(self):
        reader = Reader(read_form("1..2 1..2 a"))
        self.assertEqual([reader.hear("a"), reader.hear("a")], [(0, 0)] * 2)
        self.assertEqual(reader.standing(), [((0, 0), (1, 2)), ((0, 0), (2, 1))])

    def test_refused_signs_change_nothing(self):
        for text in TEXTS:
            form = read_form(text)
            reader = Reader(form)
            row = ()
            for _ in range(6):
                wrong = [sign for sign in ("a", "b", "c", "z", "aa", "ab") if sign not in may_come(form, row)]
                for sign in (*wrong, *NO_SIGNS):
                    with self.assertRaises(NoSign) as caught:
                        reader.hear(sign)
                    self.assertIsInstance(caught.exception, WayError)
                    self.agrees(reader, form, row)
                if not reader.coming():
                    break
                row = (*row, reader.coming()[-1])
                reader.hear(row[-1])

    def test_none_to_go_back_by(self):
        reader = Reader(A)
        for _ in range(2):
            with self.assertRaises(NoSign):
                reader.back()
        reader.hear("a")
        self.assertIs(reader.ends_here(), True)
        self.assertIsNone(reader.back())
        with self.assertRaises(NoSign):
            reader.back()
        self.assertEqual(reader.hear("a"), ())

    def test_two_readers_by_turns(self):
        form = read_form("0.. [ a 0..1 b ]")
        one, other = Reader(form), Reader(form)
        heard = [(), ()]
        for at, sign in enumerate("aabaabba"):
            reader = (one, other)[at % 2]
            if sign in reader.coming():
                reader.hear(sign)
                heard[at % 2] = (*heard[at % 2], sign)
            self.agrees(one, form, heard[0])
            self.agrees(other, form, heard[1])
        one.back()
        self.agrees(one, form, heard[0][:-1])
        self.agrees(other, form, heard[1])

    def test_told_lists_are_the_askers_own(self):
        form = read_form("[ 0..2 [ a b ] c ]")
        reader = Reader(form)
        row = ()
        for sign in "abc":
            for told in (reader.coming(), reader.standing(), reader.heard_at()):
                told.append("z")
                told[0] = None
                told.clear()
            self.agrees(reader, form, row)
            reader.hear(sign)
            row = (*row, sign)
        self.agrees(reader, form, row)

    def test_long_rows_and_forms_that_are_told(self):
        for text in ("0.. [ a 0..1 b ]", "10..12 [ a 0..3 b ]"):
            for form in (read_form(text), opened(read_form(text))):
                reader = Reader(form)
                row = ("a", "b", "a") * 4
                for sign in row:
                    reader.hear(sign)
                self.agrees(reader, form, row)

    def test_refused_forms(self):
        many = 0
        for form in forms()[::3]:
            if once(form)[0] == "two":
                many += 1
                with self.assertRaises(NotOnce) as caught:
                    Reader(form)
                self.assertIsInstance(caught.exception, WayError)
        self.assertGreater(many, 20)
        with self.assertRaises(NotOnce):
            Reader(FOUR_HUNDRED_STANDS)
        for form in WIDE:
            with self.assertRaises(TooWide):
                Reader(form)
        self.assertEqual(Reader(FOUR_HUNDRED_LISTS).coming(), ["a"])

    def test_by_name_and_where_it_is(self):
        reader = Reader(form=A)
        self.assertEqual(reader.hear(sign="a"), ())
        self.assertEqual(Reader.__module__, reader_file.__name__)
        for name in ("hear", "coming", "ends_here", "standing", "heard", "heard_at", "back"):
            self.assertIn(name, vars(Reader))
        self.assertIs(Reader(EMPTY).ends_here(), True)
        self.assertEqual(Reader(EMPTY).coming(), [])


if __name__ == "__main__":
    unittest.main()
