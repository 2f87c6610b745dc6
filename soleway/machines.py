"""Machines: rooms, with steps by signs from one to another."""

from soleway.forms import is_sign, is_whole
from soleway.reached import Reached

_MOST_ROOMS = 200
_MOST_SIGNS = 6


def is_machine(thing):
    """Whether a thing is a machine within all bounds."""
    if not isinstance(thing, tuple) or not 1 <= len(thing) <= _MOST_ROOMS:
        return False
    if not all(_is_room(room, len(thing)) for room in thing):
        return False
    if len({sign for _, steps in thing for sign, _ in steps}) > _MOST_SIGNS:
        return False
    onward = [[behind for _, behind in steps] for _, steps in thing]
    back = [[] for _ in thing]
    for number, led_to in enumerate(onward):
        for behind in led_to:
            back[behind].append(number)
    ending = [number for number, (ends, _) in enumerate(thing) if ends]
    return _all_come_to(onward, [0]) and _all_come_to(back, ending)


def _is_room(thing, many):
    """Whether a thing is a room of a machine of so many rooms."""
    if not isinstance(thing, tuple) or len(thing) != 2 or not isinstance(thing[0], bool):
        return False
    if not isinstance(thing[1], tuple) or not all(_is_step(step, many) for step in thing[1]):
        return False
    signs = [sign for sign, _ in thing[1]]
    return all(sign < later for sign, later in zip(signs, signs[1:]))


def _is_step(thing, many):
    """Whether a thing is a pair of a sign and the number of one of so many rooms."""
    if not isinstance(thing, tuple) or len(thing) != 2 or not is_sign(thing[0]):
        return False
    return is_whole(thing[1]) and 0 <= thing[1] < many


def _all_come_to(onward, first):
    """Whether all rooms are come to from the first ones; `onward` tells for each where it leads."""
    seen = {number: True for number in first}
    ahead = list(first)
    while ahead:
        for number in onward[ahead.pop()]:
            if number not in seen:
                seen[number] = True
                ahead.append(number)
    return len(seen) == len(onward)


def runs(machine, row):
    """Whether a machine takes a row."""
    at = 0
    for sign in row:
        led_to = [behind for by, behind in machine[at][1] if by == sign]
        if not led_to:
            return False
        at = led_to[0]
    return machine[at][0]


def least(form):
    """The least machine of a form."""
    return least_of(machine_of(Reached(form)))


def machine_of(reached):
    """The machine whose rooms are the lists of stands behind the rows of a form."""
    rooms = [(reached.list_ends(at), tuple(leads.items())) for at, leads in enumerate(reached.leads)]
    return tuple(rooms)


def least_of(machine):
    """The least machine of a machine."""
    return least_from(machine, 0)


def least_from(machine, first):
    """The least machine of the rows that lead from a room to one that ends; rooms not come to are left out."""
    kinds = _kinds(machine)
    # One room of each kind, in the order of the least rows that lead to the kinds.
    rooms = [first]
    numbers = {kinds[first]: 0}
    at = 0
    while at < len(rooms):
        for _, behind in machine[rooms[at]][1]:
            if kinds[behind] not in numbers:
                numbers[kinds[behind]] = len(rooms)
                rooms.append(behind)
        at += 1
    return tuple([_renumbered(machine[room], kinds, numbers) for room in rooms])


def _renumbered(room, kinds, numbers):
    """A room with the numbers of the kinds of rooms to which it leads."""
    ends, steps = room
    return (ends, tuple([(sign, numbers[kinds[behind]]) for sign, behind in steps]))


def _kinds(machine):
    """For each room the number of its kind: from rooms of one kind the same rows lead to an end."""
    kinds = [0 for _ in machine]
    many = 0
    looks = {0: 0}
    # Kinds are parted by what their rooms look like until no look parts one more.
    while len(looks) > many:
        many = len(looks)
        looks = {}
        told = []
        for number, (ends, steps) in enumerate(machine):
            look = (kinds[number], ends, tuple([(sign, kinds[behind]) for sign, behind in steps]))
            told.append(looks.setdefault(look, len(looks)))
        kinds = told
    return kinds
