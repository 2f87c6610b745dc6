import unittest

from soleway import orbits as orbits_file
from soleway.formtexts import read_form
from soleway.machines import is_machine, least, least_of
from soleway.orbits import cut_gates, cut_orbits, gates, is_bare, is_cut_even, is_even, orbits, part_of, steady
from paperforms import forms
from plainmachines import (cut_plainly, gates_plainly, is_bare_plainly, is_even_plainly, made_at_hazard, orbits_plainly,
                           part_plainly, small_machines, steady_plainly)

ONLY_EMPTY = ((True, ()),)
LOOP = ((True, (("a", 0),)),)
# Two rooms in a ring, with a way out of either of them to a third one that ends.
RING_OUT = ((False, (("a", 1), ("b", 2))), (False, (("a", 0), ("b", 2))), (True, ()))


def room(ends, *steps):
    """A room, its steps written as a sign and a room's number, such as a0."""
    return (ends, tuple((step[0], int(step[1:])) for step in steps))


class Orbits(unittest.TestCase):

    def test_one_room(self):
        self.assertEqual(orbits(ONLY_EMPTY), [[0]])
        self.assertIs(is_bare(ONLY_EMPTY, [0]), True)
        self.assertEqual(orbits(LOOP), [[0]])
        self.assertIs(is_bare(LOOP, [0]), False)
        for machine in (ONLY_EMPTY, LOOP):
            self.assertEqual(gates(machine, [0]), [0])
            self.assertIs(is_even(machine, [0]), True)

    def test_several(self):
        self.assertEqual(orbits(RING_OUT), [[0, 1], [2]])
        self.assertEqual([is_bare(RING_OUT, orbit) for orbit in [[0, 1], [2]]], [False, True])
        machine = (room(False, "a3", "b1"), room(False, "a2"), room(True, "a1", "b4"), room(False, "a0", "c4"),
                   room(True, "a4"))
        self.assertEqual(orbits(machine), [[0, 3], [1, 2], [4]])
        self.assertEqual([is_bare(machine, orbit) for orbit in orbits(machine)], [False] * 3)
        self.assertEqual([gates(machine, orbit) for orbit in orbits(machine)], [[0, 3], [2], [4]])
        machine = (room(False, "a2", "b1"), room(True), room(False, "a4", "b3"), room(True), room(False, "a0"))
        self.assertEqual(orbits(machine), [[0, 2, 4], [1], [3]])
        self.assertEqual([is_bare(machine, orbit) for orbit in orbits(machine)], [False, True, True])

    def test_in_the_order_of_their_first_rooms(self):
        machine = (room(False, "a4"), room(True), room(False, "a3"), room(False, "a1", "b2"), room(False, "a2"))
        self.assertEqual(orbits(machine), [[0], [1], [2, 3], [4]])

    def test_by_the_document(self):
        for machine in small_machines() + made_at_hazard(600) + [least(form) for form in forms()[::4]]:
            told = orbits(machine)
            self.assertEqual([type(orbit) for orbit in told], [list] * len(told))
            self.assertEqual([tuple(orbit) for orbit in told], orbits_plainly(machine), machine)
            for orbit in told:
                self.assertIs(is_bare(machine, orbit), is_bare_plainly(machine, orbit), machine)
                self.assertEqual(gates(machine, orbit), gates_plainly(machine, orbit), machine)
                self.assertIs(is_even(machine, orbit), is_even_plainly(machine, orbit), machine)
            self.assertEqual(steady(machine), steady_plainly(machine), machine)
            after = cut_plainly(machine)
            cut = cut_orbits(machine)
            self.assertEqual([tuple(orbit) for orbit in cut], orbits_plainly(after), machine)
            for orbit in cut:
                self.assertEqual(cut_gates(machine, orbit), gates_plainly(after, orbit), machine)
                self.assertIs(is_cut_even(machine, orbit), is_even_plainly(after, orbit), machine)
                for number in orbit:
                    part = part_of(machine, number)
                    self.assertEqual(part, least_of(part_plainly(machine, number)), (machine, number))
                    self.assertIs(is_machine(part), True)

    def test_many_rooms(self):
        ring = tuple((at == 0, (("a", (at + 1) % 200),)) for at in range(200))
        self.assertEqual(orbits(ring), [list(range(200))])
        self.assertEqual(cut_orbits(ring), [[at] for at in range(200)])
        line = tuple((at == 199, (("a", at + 1),) if at < 199 else ()) for at in range(200))
        self.assertEqual(orbits(line), [[at] for at in range(200)])
        self.assertEqual(part_of(line, 50), ONLY_EMPTY)
        more = tuple((at == 0, (("a", (at + 1) % 1500),)) for at in range(1500))
        self.assertEqual(orbits(more), [list(range(1500))])

    def test_by_name_and_where_it_is(self):
        self.assertEqual(orbits(machine=LOOP), [[0]])
        self.assertIs(is_bare(machine=LOOP, orbit=[0]), False)
        self.assertIs(is_even(machine=LOOP, orbit=[0]), True)
        self.assertEqual(gates(machine=LOOP, orbit=[0]), [0])
        self.assertEqual(steady(machine=LOOP), ["a"])
        self.assertEqual(cut_orbits(machine=LOOP), [[0]])
        self.assertEqual(cut_gates(machine=LOOP, orbit=[0]), [0])
        self.assertIs(is_cut_even(machine=LOOP, orbit=[0]), True)
        self.assertEqual(part_of(machine=LOOP, room=0), ONLY_EMPTY)
        for function in (orbits, is_bare, is_even, gates, steady, cut_orbits, cut_gates, is_cut_even, part_of):
            self.assertEqual(function.__module__, orbits_file.__name__)

    def test_told_lists_are_the_askers_own(self):
        for function, expected in ((orbits, [[0, 1], [2]]), (cut_orbits, [[0, 1], [2]])):
            told = function(RING_OUT)
            told[0].append(5)
            told.clear()
            self.assertEqual(function(RING_OUT), expected)
        orbit = [0, 1]
        gates(RING_OUT, orbit).append(7)
        cut_gates(RING_OUT, orbit).clear()
        self.assertEqual(orbit, [0, 1])
        self.assertEqual((gates(RING_OUT, orbit), cut_gates(RING_OUT, orbit)), ([0, 1], [0, 1]))
        steady(LOOP).append("b")
        self.assertEqual(steady(LOOP), ["a"])


class Gates(unittest.TestCase):

    def told(self, machine, orbit, expected, even):
        self.assertIn(orbit, orbits(machine))
        self.assertEqual(gates(machine, orbit), expected)
        self.assertIs(is_even(machine, orbit), even)

    def test_by_ends_alone_and_by_steps_alone(self):
        self.told((room(True, "a1"), room(True, "a0")), [0, 1], [0, 1], True)
        self.told((room(True, "a1"), room(False, "a0")), [0, 1], [0], True)
        self.told((room(False, "a1"), room(True, "a0")), [0, 1], [1], True)
        self.told((room(False, "a1"), room(False, "a0", "b2"), room(True)), [0, 1], [1], True)
        self.told(RING_OUT, [0, 1], [0, 1], True)
        self.told(RING_OUT, [2], [2], True)

    def test_uneven(self):
        # One ends, the other does not.
        self.told((room(True, "a1"), room(False, "a0", "b2"), room(True)), [0, 1], [0, 1], False)
        self.told((room(True, "a1", "b2"), room(False, "a0", "b2"), room(True)), [0, 1], [0, 1], False)
        # Other signs lead out, or more of them.
        self.told((room(False, "a1", "b2"), room(False, "a0", "c2"), room(True)), [0, 1], [0, 1], False)
        self.told((room(False, "a1", "b2"), room(False, "a0", "b2", "c2"), room(True)), [0, 1], [0, 1], False)
        self.told((room(True, "a1", "b2"), room(True, "a0"), room(True)), [0, 1], [0, 1], False)
        # The same sign leads out to other rooms.
        self.told((room(False, "a1", "b2"), room(False, "a0", "b3"), room(True), room(True, "a2")), [0, 1], [0, 1],
                  False)
        # A sign leads out from the one, and from the other to a room of the orbit.
        self.told((room(False, "a1", "b2"), room(False, "a0", "b1", "c2"), room(True)), [0, 1], [0, 1], False)

    def test_steps_within_need_not_be_the_same(self):
        self.told((room(True, "a1", "b0", "c2"), room(True, "b0", "c2"), room(True)), [0, 1], [0, 1], True)
        self.told((room(False, "a1"), room(True, "a0", "b1", "c2"), room(True)), [0, 1], [1], True)


class Steady(unittest.TestCase):

    def test_none(self):
        for machine in (ONLY_EMPTY, RING_OUT, (room(True, "a1"), room(True, "a0")), (room(True, "a1"), room(True)),
                        (room(True, "a1"), room(True, "b1")), (room(False, "a1", "b1"), room(True))):
            self.assertEqual(steady(machine), [])
            self.assertEqual(cut_orbits(machine), orbits(machine))

    def test_one_and_several(self):
        self.assertEqual(steady((room(True, "a1", "b0"), room(True, "a1"))), ["a"])
        self.assertEqual(steady((room(True, "a1", "b0"), room(False, "a0", "b1", "c1"))), ["a", "b"])
        self.assertEqual(steady((room(False, "a1", "b0"), room(True, "b0", "c1", "d0"))), ["b", "c", "d"])
        self.assertEqual(steady((room(True, "a1", "b0", "c1"), room(True, "a0", "b0", "c1"))), ["b", "c"])
        self.assertEqual(steady((room(True, "a0", "b0"),)), ["a", "b"])
        self.assertEqual(steady(((True, (("b", 0), ("ba", 0), ("c", 0))),)), ["b", "ba", "c"])

    def test_cut(self):
        machine = (room(True, "a1"), room(False, "a0"))
        self.assertEqual((orbits(machine), cut_orbits(machine)), ([[0, 1]], [[0], [1]]))
        self.assertEqual([cut_gates(machine, orbit) for orbit in ([0], [1])], [[0], [1]])
        machine = (room(False, "a1", "b0"), room(True, "a1", "b0"))
        self.assertEqual((orbits(machine), cut_orbits(machine)), ([[0, 1]], [[0], [1]]))
        self.assertEqual([part_of(machine, number) for number in (0, 1)], [((True, (("b", 0),)),), ONLY_EMPTY])

    def test_rooms_that_a_cut_leaves_unreached(self):
        machine = (room(True, "a1"), room(False, "a2", "b1"), room(False, "b1", "c0"))
        self.assertEqual(cut_orbits(machine), [[0], [1, 2]])
        self.assertEqual(cut_gates(machine, [1, 2]), [2])
        self.assertIs(is_cut_even(machine, [1, 2]), True)
        self.assertEqual(part_of(machine, 1), (room(False, "a1", "b0"), room(True, "b0")))
        self.assertEqual(part_of(machine, 2), (room(True, "b1"), room(False, "a0", "b1")))
        self.assertEqual(part_of(machine, 0), ONLY_EMPTY)

    def test_even_but_not_when_it_is_cut(self):
        machine = (room(True, "a1", "b0"), room(False, "a0", "b2"), room(True, "a2", "b0"))
        self.assertEqual((orbits(machine), steady(machine)), ([[0, 1, 2]], ["b"]))
        self.assertEqual(gates(machine, [0, 1, 2]), [0, 2])
        self.assertIs(is_even(machine, [0, 1, 2]), True)
        self.assertEqual(cut_orbits(machine), [[0, 1], [2]])
        self.assertEqual(cut_gates(machine, [0, 1]), [0, 1])
        self.assertEqual([is_cut_even(machine, orbit) for orbit in ([0, 1], [2])], [False, True])

    def test_steady_signs_that_lead_out(self):
        machine = (room(True, "a1", "b2"), room(True, "a0", "b2"), room(True, "b2"))
        self.assertEqual((orbits(machine), steady(machine)), ([[0, 1], [2]], ["b"]))
        self.assertEqual([cut_gates(machine, orbit) for orbit in ([0, 1], [2])], [[0, 1], [2]])
        self.assertIs(is_cut_even(machine, [0, 1]), True)
        self.assertEqual([part_of(machine, number) for number in range(3)], [LOOP, LOOP, ONLY_EMPTY])


class Parts(unittest.TestCase):

    def test_at_each_room(self):
        machine = least(read_form("[ 0.. ( a b ) a b a ]"))
        self.assertEqual(len(machine), 4)
        self.assertEqual(steady(machine), ["a", "b"])
        self.assertEqual(orbits(machine), [[0, 1, 2, 3]])
        self.assertEqual(cut_orbits(machine), [[0, 1, 2], [3]])
        self.assertEqual(cut_gates(machine, [0, 1, 2]), [2])
        first = (room(False, "a1", "b0"), room(False, "a1", "b2"), room(True, "b0"))
        self.assertEqual(part_of(machine, 0), first)
        self.assertEqual(part_of(machine, 1), (room(False, "a0", "b1"), room(True, "b2"), room(False, "a0", "b2")))
        self.assertEqual(part_of(machine, 2), (room(True, "b1"), room(False, "a2", "b1"), room(False, "a2", "b0")))
        self.assertEqual(part_of(machine, 3), ONLY_EMPTY)
        # Orbits within one another: each cut has smaller ones.
        self.assertEqual(cut_orbits(first), [[0], [1], [2]])
        self.assertEqual([part_of(first, number) for number in range(3)],
                         [(room(True, "b0"),), (room(True, "a0"),), ONLY_EMPTY])
        self.assertEqual(part_of((room(True, "b0"),), 0), ONLY_EMPTY)

    def test_least(self):
        # Both rooms are gates, and the way from the one is that from the other: the least machine has one room.
        self.assertEqual(part_of(RING_OUT, 0), LOOP)
        self.assertEqual(part_of(RING_OUT, 1), LOOP)

    def test_steps_out_are_left_out(self):
        machine = (room(False, "a1", "b3"), room(False, "a2"), room(False, "a0"), room(True, "c4"), room(True))
        self.assertEqual(part_of(machine, 1), (room(False, "a1"), room(False, "a2"), room(True, "a0")))
        self.assertEqual(part_of(machine, 2), (room(False, "a1"), room(True, "a2"), room(False, "a0")))


if __name__ == "__main__":
    unittest.main()
