"""What the document promises over the whole program: what is told of the same forms and rows hangs together."""

import unittest

from soleway.alike import alike, is_alike_paper
from soleway.desk import Desk
from soleway.errors import NotOnce
from soleway.forms import is_form, is_plain, leaves, places, signs_of
from soleway.formtexts import form_text, read_form
from soleway.machines import least, least_of, runs
from soleway.made import is_none_paper, made_once
from soleway.numbers import many_rows, most_signs, number_of, row_at
from soleway.once import is_once_paper, once
from soleway.opening import opened
from soleway.orbits import cut_gates, cut_orbits, gates, is_cut_even, orbits, part_of, steady
from soleway.reader import Reader
from soleway.readings import all_readings, how_many, is_reading, leaves_read, one_reading, takes
from soleway.stands import ending, first_wrong, may_come, stands, steps
from soleway.sure import is_single_paper, is_sure_paper, single, sure
from soleway.within import both, either, endings, is_within_paper, within
from paperforms import forms
from plainly import rows_up_to, shortlex

ROWS = shortlex(rows_up_to("ab", 4))


class OneForm(unittest.TestCase):

    def test_rows(self):
        for form in forms()[::3]:
            machine = least(form)
            for row in ROWS:
                many = how_many(form, row)
                taken = takes(form, row)
                self.assertIs(taken, many > 0)
                self.assertIs(runs(machine, row), taken)
                self.assertEqual(first_wrong(form, row) is None, taken)
                self.assertEqual(number_of(form, row) is not None, taken)
                self.assertEqual(one_reading(form, row)[0] == "read", taken)
                if many <= 50:
                    told = all_readings(form, row, 50)
                    self.assertEqual((len(told), len(set(told))), (many, many))
                    self.assertTrue(all(is_reading(form, row, reading) for reading in told))
                rest, more = endings(form, row), ending(form, row)
                self.assertEqual([rest is None, more is None], [stands(form, row) == []] * 2)
                if rest is not None:
                    self.assertIs(rest[0][0], taken)
                    self.assertIs(takes(form, row + more), True)
                    self.assertIs(runs(rest, more), True)
                    self.assertEqual([sign for sign, _ in rest[0][1]], may_come(form, row))

    def test_numbers(self):
        for form in forms()[::2]:
            taken = [row for row in ROWS if takes(form, row)]
            self.assertEqual(sum(many_rows(form, n) for n in range(5)), len(taken))
            self.assertEqual([row_at(form, number) for number in range(len(taken))], taken)
            most = most_signs(form)
            if most is not None:
                many = sum(many_rows(form, n) for n in range(most + 1))
                self.assertIsNone(row_at(form, many))
                self.assertEqual(len(row_at(form, many - 1)), most)

    def test_sure_just_where_single_and_at_once(self):
        told = {}
        for form in forms():
            words = (once(form)[0], single(form)[0])
            told[words] = told.get(words, 0) + 1
            self.assertEqual(sure(form)[0] == "sure", words == ("once", "single"), form)
        self.assertEqual(len(told), 4)
        self.assertTrue(min(told.values()) > 5, told)

    def test_once_is_told_by_readers_and_opened_forms(self):
        for form in forms()[::2]:
            if once(form)[0] == "two":
                with self.assertRaises(NotOnce):
                    Reader(form)
                self.assertEqual(once(opened(form))[0], "two")
                continue
            for row in [row for row in ROWS if takes(form, row)]:
                reader = Reader(form)
                told = [reader.hear(sign) for sign in row]
                for reading in all_readings(form, row, 1000) if how_many(form, row) <= 50 else []:
                    self.assertEqual(leaves_read(form, reading), told)
                self.assertIs(reader.ends_here(), True)

    def test_papers_and_rows(self):
        for form in forms()[::5]:
            for function, word, is_paper in ((once, "once", is_once_paper), (sure, "sure", is_sure_paper),
                                             (single, "single", is_single_paper)):
                told = function(form)
                if told[0] == word:
                    self.assertIs(is_paper(form, told[1]), True)
                else:
                    self.assertTrue(stands(form, told[1]))
                    self.assertIs(is_paper(form, [None] if word == "sure" else []), False)
            told = single(form)
            if told[0] == "double":
                self.assertGreater(how_many(form, told[1]), 1)

    def test_made_or_none(self):
        for form in forms()[::2]:
            if len(least(form)) > 6:
                continue
            told = made_once(form)
            if told[0] == "made":
                self.assertIs(is_plain(told[1]), True)
                self.assertEqual(once(told[1])[0], "once")
                self.assertEqual(least(told[1]), least(form))
                Reader(told[1])
            else:
                self.assertIs(is_none_paper(form, told[1]), True)
                self.assertEqual(sure(form)[0], "unsure")
                self.assertNotEqual(once(opened(form))[0], "once")


class TwoForms(unittest.TestCase):

    def test_together(self):
        some = forms()[5::37]
        for one in some:
            for other in some:
                in_both, in_one = both(one, other), either(one, other)
                inner, outer = within(one, other), within(other, one)
                words = alike(one, other)
                self.assertEqual(words[0] == "alike", least(one) == least(other))
                self.assertEqual(words[0] == "alike", inner[0] == outer[0] == "within")
                self.assertEqual(inner[0] == "within", in_both == least(one))
                self.assertEqual(inner[0] == "within", in_one == least(other))
                if words[0] == "parted":
                    beyond = [told[1] for told in (inner, outer) if told[0] == "beyond"]
                    self.assertEqual(words[1], shortlex(beyond)[0])
                for n in range(4):
                    rows = [row for row in ROWS if len(row) == n]
                    many = sum(in_both is not None and runs(in_both, row) for row in rows)
                    more = sum(runs(in_one, row) for row in rows)
                    self.assertEqual(many + more, many_rows(one, n) + many_rows(other, n))

    def test_picks_are_either(self):
        some = forms()[2::41]
        for one in some:
            for other in some:
                form = ("pick", (one, other))
                self.assertEqual(least(form), either(one, other))
                self.assertEqual(within(one, form)[0], "within")
                self.assertIs(is_within_paper(one, form, within(one, form)[1]), True)

    def test_endings_of_rows_are_endings_of_forms(self):
        for form in forms()[::29]:
            self.assertEqual(endings(form, ()), least(form))
            self.assertEqual(alike(form, ("row", (form, ("row", ()))))[0], "alike")
            for sign in signs_of(form):
                self.assertEqual(endings(("row", (("sign", sign), form)), (sign,)), least(form))


class Told(unittest.TestCase):

    def spoiled(self, thing):
        """Change all lists that stand in a thing."""
        if type(thing) in (list, tuple):
            for inner in thing:
                self.spoiled(inner)
        if type(thing) is list:
            thing.append("spoiled")
            thing.insert(0, None)

    def test_lists_that_are_told_are_the_askers_own(self):
        for text in ("0..2 [ a 0..1 b ]", "[ 0..1 a a ]", "0..2 0..2 a", "0.. ( a b )", "[ 0.. ( a b ) a ( a b ) ]",
                     "( a a )"):
            form = read_form(text)
            machine = least(form)
            row = row_at(form, 1) or row_at(form, 0)
            calls = [lambda: once(form), lambda: sure(form), lambda: single(form), lambda: alike(form, form),
                     lambda: alike(form, opened(form)), lambda: within(form, form), lambda: places(form),
                     lambda: leaves(form),
                     lambda: signs_of(form), lambda: stands(form, row), lambda: may_come(form, row),
                     lambda: steps(form, None, "a"),
                     lambda: all_readings(form, row, 1000), lambda: leaves_read(form, one_reading(form, row)[1]),
                     lambda: orbits(machine), lambda: cut_orbits(machine), lambda: steady(machine),
                     lambda: made_once(form),
                     lambda: [gates(machine, orbit) for orbit in orbits(machine)],
                     lambda: [cut_gates(machine, orbit) for orbit in cut_orbits(machine)]]
            for at, call in enumerate(calls):
                kept = repr(call())
                self.spoiled(call())
                self.assertEqual(repr(call()), kept, (text, at))
                self.spoiled(calls[at - 1]())
                self.assertEqual(repr(call()), kept, (text, at))

    def test_what_is_handed_in_is_not_changed(self):
        form = read_form("0..2 [ a 0..1 b ]")
        papers = [(is_once_paper, once(form)[1]), (is_sure_paper, sure(form)[1]), (is_single_paper, single(form)[1])]
        for is_paper, paper in papers:
            kept = repr(paper)
            is_paper(form, paper)
            self.assertEqual(repr(paper), kept)
            paper.clear()
            self.assertIs(is_paper(form, paper), False)
        for is_paper, paper in ((is_alike_paper, alike(form, form)[1]), (is_within_paper, within(form, form)[1])):
            kept = repr(paper)
            self.assertIs(is_paper(form, form, paper), True)
            self.assertEqual(repr(paper), kept)
        machine = least(form)
        orbit = cut_orbits(machine)[-1]
        kept = list(orbit)
        cut_gates(machine, orbit)
        is_cut_even(machine, orbit)
        part_of(machine, orbit[0])
        least_of(machine)
        self.assertEqual((orbit, machine), (kept, least(form)))

    def test_desks_tell_what_the_functions_tell(self):
        desk = Desk()
        for at, form in enumerate(forms()[::40]):
            name = "f" + "abcdefghijklmnopqrstuvwxyz"[at]
            desk.say(f"form {name} {form_text(form)}")
            self.assertEqual(desk.say(f"sure {name}") == "yes",
                             desk.say(f"once {name}") == desk.say(f"single {name}") == "yes")
            self.assertEqual(desk.say(f"alike {name} {name}"), "yes")
            if len(least(form)) <= 6 and is_form(made_once(form)[1]):
                desk.say(f"form made {desk.say(f'made {name}')}")
                self.assertEqual([desk.say(row) for row in ("once made", f"alike made {name}", f"within {name} made")],
                                 ["yes"] * 3)


if __name__ == "__main__":
    unittest.main()
