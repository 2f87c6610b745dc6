import unittest

from soleway import machines as machines_file
from soleway.errors import TooWide
from soleway.formtexts import read_form
from soleway.machines import is_machine, least, least_of, runs
from soleway.readings import takes
from paperforms import FOUR_HUNDRED_LISTS, FOUR_HUNDRED_STANDS, WIDE, forms
from plainly import A, B, rows_up_to, shortlex

EMPTY = ("row", ())
ONLY_EMPTY = ((True, ()),)
LOOP = ((True, (("a", 0),)),)


def line(many, ends=True):
    """A machine of so many rooms, one behind another."""
    return tuple((at == many - 1 and ends, (("a", at + 1),) if at < many - 1 else ()) for at in range(many))


def moved(machine, order):
    """The machine with its rooms put otherwise: the room of number k stands at order[k]; room 0 stays."""
    told = [None] * len(machine)
    for room, at in zip(machine, order):
        told[at] = (room[0], tuple((sign, order[behind]) for sign, behind in room[1]))
    return tuple(told)


def doubled(machine):
    """The machine with each room twice: steps lead from the one to the other kind, so both are come to, mostly."""
    many = len(machine)
    first = [(ends, tuple((sign, behind + many) for sign, behind in steps)) for ends, steps in machine]
    return only_come_to(tuple(first + list(machine)))


def only_come_to(machine):
    seen = [0]
    for room in seen:
        seen += [behind for _, behind in machine[room][1] if behind not in seen]
    seen = list(dict.fromkeys(seen))
    return tuple((machine[room][0], tuple((sign, seen.index(behind)) for sign, behind in machine[room][1]))
                 for room in seen)


def least_rows(machine):
    """For each room the least row that leads to it."""
    told = {0: ()}
    ahead = [0]
    for room in ahead:
        for sign, behind in machine[room][1]:
            if behind not in told:
                told[behind] = (*told[room], sign)
                ahead.append(behind)
    return [told[room] for room in range(len(machine))]


def parted(machine):
    """Whether from each two rooms unlike rows lead to an end: what no machine with fewer rooms can do."""
    apart = {(one, other) for one, (ends, _) in enumerate(machine) for other, (ending, _) in enumerate(machine)
             if ends != ending}
    steps = [dict(room[1]) for room in machine]
    rooms = range(len(machine))
    for _ in rooms:
        apart |= {(one, other) for one in rooms for other in rooms if one != other
                  and (steps[one].keys() != steps[other].keys()
                       or any((steps[one][sign], steps[other][sign]) in apart for sign in steps[one]))}
    return len(apart) == len(machine) * (len(machine) - 1)


class Machines(unittest.TestCase):

    def yes(self, *things):
        for at, thing in enumerate(things):
            self.assertIs(is_machine(thing), True, at)

    def no(self, *things):
        for at, thing in enumerate(things):
            self.assertIs(is_machine(thing), False, at)

    def test_machines(self):
        self.yes(ONLY_EMPTY, LOOP, line(2), ((True, (("a", 0), ("b", 0))),), ((False, (("abcdef", 1),)), (True, ())),
                 ((True, (("a", 1),)), (False, (("b", 0),))), ((False, (("a", 1), ("b", 1))), (True, (("a", 1),))))
        self.assertIs(is_machine(thing=LOOP), True)

    def test_rooms_at_the_bound(self):
        self.yes(line(1), line(199), line(200))
        self.no(line(201), line(400), ())

    def test_signs_at_the_bound(self):
        six = tuple((sign, 0) for sign in "abcdef")
        self.yes(((True, six),), ((True, six[:3] + (("d", 1),)), (True, (("e", 1), ("f", 0)))))
        self.no(((True, six + (("g", 0),)),), ((True, six[:5] + (("f", 1),)), (True, (("g", 0),))))
        self.yes(((True, six[:5] + (("f", 1),)), (True, (("a", 0), ("f", 1)))))

    def test_all_rooms_come_to(self):
        self.no(((True, ()), (True, ())), ((True, (("a", 0),)), (True, (("a", 0),))),
                ((True, ()), (True, (("a", 0),))), ((False, (("a", 1),)), (True, ()), (True, (("a", 1),))),
                ((True, ()), (False, (("a", 2),)), (True, (("a", 1),))))

    def test_an_end_come_to_from_all(self):
        self.no(((False, ()),), ((False, (("a", 0),)),), line(3, False), ((True, (("a", 1),)), (False, ())),
                ((True, (("a", 1),)), (False, (("a", 1),))), ((True, (("a", 1), ("b", 2))), (True, ()), (False, ())))
        self.yes(((True, (("a", 1),)), (False, (("a", 0),))))

    def test_signs_rise_each_once(self):
        self.no(((True, (("b", 0), ("a", 0))),), ((True, (("a", 0), ("a", 0))),),
                ((True, (("a", 0), ("a", 1))), (True, ())), ((True, (("a", 0), ("c", 0), ("b", 0))),))
        self.yes(((True, (("a", 0), ("aa", 0), ("ab", 0), ("b", 0))),))
        self.no(((True, (("aa", 0), ("a", 0))),))

    def test_truths_and_numbers(self):
        self.no(((1, ()),), ((0, (("a", 1),)), (True, ())), ((None, ()),), (("True", ()),), ((True, (("a", False),)),),
                ((False, (("a", True),)), (True, ())), ((True, (("a", None),)),), ((True, (("a", "0"),)),),
                ((True, (("a", 1),)),), ((True, (("a", -1),)),), ((False, (("a", 2),)), (True, ())),
                ((True, (("a", 10 ** 30),)),), ((True, (("a", (0,)),)),), ((True, (("a", [0]),)),))

    def test_wrong_signs(self):
        for sign in ("", "A", "abcdefg", "a1", "a b", "a\n", " ", 1, None, True, ("a",), ["a"], 0):
            self.no(((True, ((sign, 0),)),))

    def test_no_machines_at_all(self):
        deep = True
        for _ in range(40):
            deep = (deep,)
        lists = True
        for _ in range(39):
            lists = [lists, lists]
        self.no(None, True, False, 0, 1, "", "a", [], [(True, ())], (True, ()), ((True,),), ((True, (), ()),),
                ([True, ()],), ((True, []),), ((True, None),), ((True, "ab"),), ((True, (("a", 0, 0),)),),
                ((True, (("a",),)),), ((True, (["a", 0],)),), ((True, ["a", 0]),), ((True, ("a", 0)),), ((True, ("a",)),),
                (True,), (None,), ((),), (((),),), ("a",), ("ab",), (("a", "b"),), deep, lists, (deep,), ((deep, ()),),
                ((True, deep),), ((True, (deep,)),), ((True, ((deep, 0),)),), ((True, (("a", deep),)),),
                (("", ()),), (((), ()),), ((True, ()), None), ((True, (None,)),), ((True, ()), (True,)))


class Runs(unittest.TestCase):

    def test_taken_and_not(self):
        machine = ((False, (("a", 1), ("b", 0))), (True, (("a", 1),)))
        for row, expected in [("", False), ("a", True), ("b", False), ("ba", True), ("bbbaaa", True), ("ab", False),
                              ("aba", False), ("c", False), ("ac", False), ("ca", False), ("bc", False)]:
            self.assertIs(runs(machine, tuple(row)), expected, row)
        self.assertIs(runs(machine, ("aa",)), False)
        self.assertIs(runs(ONLY_EMPTY, ()), True)
        self.assertIs(runs(ONLY_EMPTY, ("a",)), False)
        self.assertIs(runs(LOOP, ("a",) * 60), True)
        self.assertIs(runs(LOOP, ("a",) * 1000 + ("b",)), False)
        self.assertIs(runs(machine=LOOP, row=("a",)), True)

    def test_machines_beyond_the_bounds(self):
        self.assertIs(runs(line(401), ("a",) * 400), True)
        self.assertIs(runs(line(401), ("a",) * 399), False)
        self.assertIs(runs(line(401), ("a",) * 401), False)


class Least(unittest.TestCase):

    def test_small_forms(self):
        rows = rows_up_to("abz", 4)
        for form in forms():
            machine = least(form)
            self.assertIs(is_machine(machine), True, (form, machine))
            for row in rows:
                self.assertIs(runs(machine, row), takes(form, row), (form, row))
            self.assertIs(parted(machine), True, form)
            told = least_rows(machine)
            self.assertEqual(told, shortlex(told), form)
            self.assertEqual(least_of(machine), machine, form)

    def test_told(self):
        for text, expected in [
                ("[ ]", ONLY_EMPTY), ("a", ((False, (("a", 1),)), (True, ()))), ("0.. a", LOOP), ("3..4 0.. a", LOOP),
                ("( [ ] a )", ((True, (("a", 1),)), (True, ()))), ("0..1 [ ]", ONLY_EMPTY),
                ("0.. ( a b )", ((True, (("a", 0), ("b", 0))),)), ("1.. a", ((False, (("a", 1),)), (True, (("a", 1),)))),
                ("[ 0.. a b ]", ((False, (("a", 0), ("b", 1))), (True, ()))),
                ("( [ b a ] [ a b ] )", ((False, (("a", 1), ("b", 2))), (False, (("b", 3),)), (False, (("a", 3),)),
                                         (True, ()))),
                ("( [ a a ] [ b a ] )", ((False, (("a", 1), ("b", 1))), (False, (("a", 2),)), (True, ()))),
                ("0.. [ a 0..1 b ]", ((True, (("a", 1),)), (True, (("a", 1), ("b", 0))))),
                ("[ 0.. ( a b ) a ]", ((False, (("a", 1), ("b", 0))), (True, (("a", 1), ("b", 0)))))]:
            self.assertEqual(least(read_form(text)), expected, text)
        self.assertEqual(least(form=A), ((False, (("a", 1),)), (True, ())))
        self.assertEqual(least_of(machine=LOOP), LOOP)

    def test_numbered_by_the_least_rows(self):
        machine = least(read_form("( [ b b b ] [ a a ] [ ab c ] [ c c c c ] )"))
        told = least_rows(machine)
        self.assertEqual(told[:5], [(), ("a",), ("ab",), ("b",), ("c",)])
        self.assertEqual(told, shortlex(told))
        self.assertEqual(told[5:], [("a", "a"), ("b", "b"), ("c", "c"), ("c", "c", "c")][:len(told) - 5])

    def test_ends_are_truths(self):
        for form in forms()[::5]:
            for ends, steps in least(form):
                self.assertIs(type(ends), bool)
                self.assertIs(type(steps), tuple)
                self.assertEqual([type(number) for _, number in steps], [int] * len(steps))

    def test_rooms_put_otherwise_or_double(self):
        for form in forms()[::3]:
            machine = least(form)
            many = len(machine)
            for order in ([0, *range(many - 1, 0, -1)], [0, *range(2, many), *range(1, min(many, 2))]):
                self.assertEqual(least_of(moved(machine, order)), machine)
            self.assertEqual(least_of(doubled(machine)), machine)
            self.assertEqual(least_of(moved(doubled(machine), [0, *range(len(doubled(machine)) - 1, 0, -1)])), machine)

    def test_the_same_rows_the_same_machine(self):
        for texts in (("2..3 a", "[ a a 0..1 a ]", "( [ a a ] [ a a a ] )"), ("0.. a", "0.. 0.. a", "( [ ] 1.. a )"),
                      ("0.. ( a b )", "0.. [ 0.. a 0.. b ]", "[ 0.. a 0.. [ b 0.. a ] ]"), ("[ ]", "0.. [ ]", "2..3 [ ]"),
                      ("1..2 1..2 a", "1..4 a", "( 1..2 a 3..4 a )"), ("2..2 ( a b )", "[ ( a b ) ( b a ) ]")):
            told = [least(read_form(text)) for text in texts]
            self.assertEqual(told, [told[0]] * len(texts))
        self.assertNotEqual(least(read_form("0.. a")), least(read_form("1.. a")))
        self.assertNotEqual(least(A), least(B))

    def test_small_forms_are_alike_just_where_they_take_the_same(self):
        rows = rows_up_to("ab", 7)
        some = forms()[::12]
        machines = [least(form) for form in some]
        taken = [tuple(runs(machine, row) for row in rows) for machine in machines]
        for one, machine in enumerate(machines):
            for other in range(one):
                if len(machine) + len(machines[other]) < 8:
                    self.assertEqual(machine == machines[other], taken[one] == taken[other])

    def test_beyond_the_bounds(self):
        machine = least(FOUR_HUNDRED_LISTS)
        self.assertEqual(len(machine), 400)
        self.assertIs(is_machine(machine), False)
        self.assertEqual(least_of(machine), machine)
        self.assertEqual(least_of(moved(machine, [0, *range(399, 0, -1)])), machine)
        self.assertEqual(least(FOUR_HUNDRED_STANDS), line(11))
        many = ("row", tuple(("times", ("sign", "s" + letter), 0, 1) for letter in "abcdefghijkl"))
        machine = least(many)
        self.assertIs(is_machine(machine), False)
        self.assertEqual(len(machine), 13)
        self.assertIs(runs(machine, ("sb", "sl")), True)

    def test_wide(self):
        for form in WIDE:
            with self.assertRaises(TooWide):
                least(form)

    def test_defined_there(self):
        for function in (is_machine, runs, least, least_of):
            self.assertEqual(function.__module__, machines_file.__name__)


if __name__ == "__main__":
    unittest.main()
