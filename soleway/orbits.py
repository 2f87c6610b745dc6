"""Orbits of machines: rooms each of which is come to from each of the others."""

from soleway.machines import least_from


def orbits(machine):
    """The orbits of a machine, rising lists in the order of their first rooms."""
    return sorted(orbits_onward(machine))


def orbits_onward(machine):
    """The orbits in such an order that no step leads from one of them to an earlier one."""
    back = [[] for _ in machine]
    for number, (_, steps) in enumerate(machine):
        for _, behind in steps:
            back[behind].append(number)
    told = []
    placed = {}
    # Rooms not placed yet that lead to the one of them that was left last are come to from it, too.
    for first in _in_order_left(machine)[::-1]:
        if first not in placed:
            told.append(_placed_by(back, first, placed))
    return told


def _in_order_left(machine):
    """The rooms in the order in which a walk that goes on as deep as it can leaves them."""
    told = []
    entered = {}
    ahead = [(number, False) for number in range(len(machine))]
    while ahead:
        number, left = ahead.pop()
        if left:
            told.append(number)
        elif number not in entered:
            entered[number] = True
            ahead.append((number, True))
            ahead.extend([(behind, False) for _, behind in machine[number][1]])
    return told


def _placed_by(back, first, placed):
    """A room and those not placed yet that lead to it, rising; all of them are placed now."""
    told = [first]
    placed[first] = True
    ahead = [first]
    while ahead:
        for number in back[ahead.pop()]:
            if number not in placed:
                placed[number] = True
                told.append(number)
                ahead.append(number)
    return sorted(told)


def is_bare(machine, orbit):
    """Whether an orbit is one room with no step to itself."""
    return len(orbit) == 1 and all([behind != orbit[0] for _, behind in machine[orbit[0]][1]])


def gates(machine, orbit):
    """The rooms of an orbit that end or from which a step leads out of it, rising."""
    return [number for number in orbit if machine[number][0] or steps_out(machine, orbit, number)]


def steps_out(machine, orbit, number):
    """The steps from a room of an orbit that lead out of it, as a tuple."""
    return tuple([step for step in machine[number][1] if step[1] not in orbit])


def is_even(machine, orbit):
    """Whether all gates of an orbit are alike: all end or none does, and the same steps lead out from each."""
    looks = [(machine[gate][0], steps_out(machine, orbit, gate)) for gate in gates(machine, orbit)]
    return all([look == looks[0] for look in looks])


def steady(machine):
    """The signs that lead from each room that ends to one and the same room, sorted."""
    ending = [steps for ends, steps in machine if ends]
    # A step by a steady sign is one step, the same from each of these rooms.
    return [sign for sign, behind in ending[0] if all([(sign, behind) in steps for steps in ending])]


def cut(machine):
    """The machine without its steps by steady signs from rooms that end."""
    left_out = steady(machine)
    return tuple([(ends, tuple([step for step in steps if not ends or step[0] not in left_out]))
                  for ends, steps in machine])


def cut_orbits(machine):
    """The orbits of the machine cut."""
    return orbits(cut(machine))


def cut_gates(machine, orbit):
    """The gates of an orbit of the machine cut."""
    return gates(cut(machine), orbit)


def is_cut_even(machine, orbit):
    """Whether an orbit of the machine cut is even."""
    return is_even(cut(machine), orbit)


def part_of(machine, room):
    """The least machine of the part of a room's orbit in the machine cut, at this room."""
    after = cut(machine)
    orbit = [told for told in orbits(after) if room in told][0]
    ending = gates(after, orbit)
    rooms = [(number in ending, tuple([step for step in steps if step[1] in orbit]))
             for number, (_, steps) in enumerate(after)]
    return least_from(tuple(rooms), room)
