"""What the document says of orbits, and of papers that no form is made, word for word, and machines to try it on."""

from itertools import product
from random import Random

from soleway.machines import is_machine, least_of


def made_at_hazard(many, seed=7):
    """Machines of one to seven rooms and one to four signs, the same ones each time; none is told twice."""
    dice = Random(seed)
    told = {}
    while len(told) < many:
        rooms, signs = dice.randint(1, 7), "abcd"[:dice.randint(1, 4)]
        dense, ends = dice.random(), dice.random()
        machine = tuple((dice.random() < ends, tuple((sign, dice.randrange(rooms)) for sign in signs
                                                     if dice.random() < dense))
                        for _ in range(rooms))
        if is_machine(machine):
            told[machine] = True
    return list(told)


def small_machines():
    """All machines of two rooms and two signs, and of one room."""
    rooms = [(ends, tuple((sign, behind) for sign, behind in zip("ab", steps) if behind is not None))
             for ends in (False, True) for steps in product((None, 0, 1), repeat=2)]
    told = [machine for machine in product(rooms, repeat=2) if is_machine(machine)]
    return told + [(room,) for room in rooms if is_machine((room,))]


def come_to(machine):
    """The pairs of rooms the second of which is come to from the first by one step or more."""
    told = {(here, behind) for here, (_, steps) in enumerate(machine) for _, behind in steps}
    while True:
        more = {(one, other) for one, between in told for start, other in told if between == start} - told
        if not more:
            return told
        told |= more


def orbits_plainly(machine):
    led = come_to(machine)
    rooms = range(len(machine))
    told = [[other for other in rooms if other == one or {(one, other), (other, one)} <= led] for one in rooms]
    return sorted({tuple(orbit) for orbit in told})


def is_bare_plainly(machine, orbit):
    return len(orbit) == 1 and orbit[0] not in [behind for _, behind in machine[orbit[0]][1]]


def gates_plainly(machine, orbit):
    return [room for room in orbit if machine[room][0] or any(behind not in orbit for _, behind in machine[room][1])]


def led_out(machine, orbit, room):
    return {(sign, behind) for sign, behind in machine[room][1] if behind not in orbit}


def is_even_plainly(machine, orbit):
    told = gates_plainly(machine, orbit)
    return all(machine[one][0] == machine[other][0] and led_out(machine, orbit, one) == led_out(machine, orbit, other)
               for one in told for other in told)


def steady_plainly(machine):
    signs = {sign for _, steps in machine for sign, _ in steps}
    ending = [dict(steps) for ends, steps in machine if ends]
    return sorted(sign for sign in signs if None not in {steps.get(sign) for steps in ending}
                  and len({steps.get(sign) for steps in ending}) == 1)


def cut_plainly(machine):
    signs = steady_plainly(machine)
    return tuple((ends, tuple(step for step in steps if not (ends and step[0] in signs))) for ends, steps in machine)


def part_plainly(machine, room):
    """The part of a room's orbit in the machine cut, at this room, as it is."""
    after = cut_plainly(machine)
    orbit = [told for told in orbits_plainly(after) if room in told][0]
    order = [room] + [other for other in orbit if other != room]
    ending = gates_plainly(after, orbit)
    return tuple((other in ending, tuple((sign, order.index(behind)) for sign, behind in after[other][1]
                                         if behind in orbit))
                 for other in order)


def is_none_paper_plainly(machine, thing):
    """Whether anything is a paper that the rows of a least machine have no plain form that tells places at once."""
    if type(thing) is not tuple or len(thing) != 2 or type(thing[0]) is not tuple or type(thing[1]) is not tuple:
        return False
    downs, why = thing
    for down in downs:
        after = cut_plainly(machine)
        least_rooms = [orbit[0] for orbit in orbits_plainly(after) if not is_bare_plainly(after, orbit)]
        if type(down) is not int or down not in least_rooms:
            return False
        machine = least_of(part_plainly(machine, down))
    if why == ("closed",):
        told = orbits_plainly(machine)
        return len(told) == 1 and not is_bare_plainly(machine, told[0]) and steady_plainly(machine) == []
    if len(why) != 3 or why[0] != "uneven" or type(why[1]) is not int or type(why[2]) is not int:
        return False
    after = cut_plainly(machine)
    for orbit in orbits_plainly(after):
        if why[1] in gates_plainly(after, orbit) and why[2] in gates_plainly(after, orbit):
            one, other = why[1:]
            return after[one][0] != after[other][0] or led_out(after, orbit, one) != led_out(after, orbit, other)
    return False


def has_one_plainly(machine):
    """Whether the rows of a least machine have a plain form that tells places at once: by [27], as it stands."""
    told = orbits_plainly(machine)
    if len(told) == 1 and not is_bare_plainly(machine, told[0]) and not steady_plainly(machine):
        return False
    after = cut_plainly(machine)
    told = orbits_plainly(after)
    if not all(is_even_plainly(after, orbit) for orbit in told):
        return False
    parts = [least_of(part_plainly(machine, orbit[0])) for orbit in told if not is_bare_plainly(after, orbit)]
    return all(has_one_plainly(part) for part in parts)
