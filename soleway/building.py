"""Plain forms put together from machines, so that they tell places at once.

A row of forms is handed about here as the tuple of its parts, none of which is a row: so rows behind one
another, and what several rows have alike behind, are found part by part.
"""

from soleway.laid import laid, row_of
from soleway.orbits import cut, gates, is_bare, orbits_onward, part_of, steady, steps_out


def built(machine):
    """A plain form that tells places at once and takes the rows of a least machine that have one."""
    told = {}
    for inner in _with_all_parts(machine):
        told[inner] = _built_of(inner, told)
    return _joined(row_of(told[machine]))


def _with_all_parts(machine):
    """A machine, the parts of its orbits that are not bare, the parts of these, and so on, inner ones first."""
    told = [machine]
    seen = {machine: True}
    at = 0
    while at < len(told):
        after = cut(told[at])
        rooms = [room for orbit in orbits_onward(after) if not is_bare(after, orbit) for room in orbit]
        for part in [part_of(told[at], room) for room in rooms]:
            if part not in seen:
                seen[part] = True
                told.append(part)
        at += 1
    # A part has fewer rooms, or steps where the orbit has all rooms: some step by a steady sign is left out.
    return sorted(told, key=_size)


def _size(machine):
    """The number of rooms, and that of steps."""
    return (len(machine), sum([len(steps) for _, steps in machine]))


def _built_of(machine, told):
    """The form of a machine's rows, as a tuple of parts; `told` has those of its parts."""
    after = cut(machine)
    from_rooms = _from_rooms(machine, after, told)
    signs = steady(machine)
    if not signs:
        return from_rooms[0]
    # By a steady sign rows go on alike from all rooms that end; so they may from one room more of the machine cut.
    first_ending = [steps for ends, steps in machine if ends][0]
    steps = tuple([step for step in first_ending if step[0] in signs])
    alike = [number for number, room in enumerate(after) if room == (False, steps)]
    more = from_rooms[alike[0]] if alike else _by_steps(steps, from_rooms)
    return (*from_rooms[0], ("times", row_of(more), 0, None))


def _from_rooms(machine, after, told):
    """For each room the form of the rows that lead in the machine cut from it to an end."""
    from_rooms = {}
    # Where steps lead to from an orbit is told ahead of it.
    for orbit in orbits_onward(after)[::-1]:
        gate = gates(after, orbit)[0]
        steps = steps_out(after, orbit, gate)
        on = _by_steps(steps, from_rooms) if steps else ()
        if steps and after[gate][0]:
            on = _perhaps(on)
        for room in orbit:
            inside = () if is_bare(after, orbit) else told[part_of(machine, room)]
            from_rooms[room] = (*inside, *on)
    return from_rooms


def _by_steps(steps, from_rooms):
    """What begins with one of several steps and goes on from the room behind it."""
    rows = []
    # Rooms have other numbers in other machines: by the order of the signs the same form is built again.
    for room in list({behind: True for _, behind in steps}):
        signs = _pick([(("sign", sign),) for sign, behind in steps if behind == room])
        rows.append((*signs, *from_rooms[room]))
    return _one_of(rows)


def _perhaps(parts):
    """A row of parts, or nothing."""
    return (("times", row_of(parts), 0, 1),)


def _one_of(rows):
    """One out of several rows of parts; what two of them have alike behind is put once."""
    left = list(rows)
    one, other, many = _most_alike(left)
    while many > 0:
        first, second = left[one], left[other]
        ahead = _one_ahead(first[:len(first) - many], second[:len(second) - many])
        left[one] = (*ahead, *first[len(first) - many:])
        del left[other]
        one, other, many = _most_alike(left)
    return _pick(left)


def _one_ahead(first, second):
    """One out of two rows of parts ahead of what they have alike; one of these may have no parts."""
    if not first or not second:
        return _perhaps((*first, *second))
    return _pick([first, second])


def _pick(rows):
    """A pick of rows of parts, without picks straight in it; of one row it is that row."""
    if len(rows) == 1:
        return rows[0]
    forms = []
    for parts in rows:
        form = row_of(parts)
        forms.extend(form[1] if form[0] == "pick" else (form,))
    return (("pick", tuple(forms)),)


def _most_alike(rows):
    """The numbers of two rows of parts, the one ahead first, that have the most alike behind, and how much that is."""
    best = (0, 0, 0)
    for other, second in enumerate(rows):
        for one, first in enumerate(rows[:other]):
            many = _many_alike(first, second)
            if many > best[2]:
                best = (one, other, many)
    return best


def _many_alike(first, second):
    """How many parts two rows have alike behind."""
    many = 0
    while many < min(len(first), len(second)) and first[-1 - many] == second[-1 - many]:
        many += 1
    return many


def _joined(form):
    """A form with each x 0.. x in it put as 1.. x, those within first."""
    pieces = laid(form)
    told = [form for _ in pieces]
    for number in reversed(range(len(pieces))):
        piece, parts = pieces[number]
        inner = [told[part] for part in parts]
        if piece[0] == "row":
            told[number] = row_of(_joined_parts(inner))
        elif piece[0] == "pick":
            told[number] = ("pick", tuple(inner))
        elif piece[0] == "times":
            told[number] = ("times", inner[0], piece[2], piece[3])
        else:
            told[number] = piece
    return told[0]


def _joined_parts(parts):
    """The parts of a row with each x 0.. x among them put as 1.. x."""
    told = []
    for part in parts:
        again = _parts_again(part)
        many = len(told) - len(again)
        if again and many >= 0 and told[many:] == again:
            del told[many:]
            told.append(("times", part[1], 1, None))
        else:
            told.append(part)
    return told


def _parts_again(form):
    """The parts of the row that a form takes as often as may be, or none where it is no such form."""
    if form[0] != "times" or (form[2], form[3]) != (0, None):
        return []
    return list(form[1][1]) if form[1][0] == "row" else [form[1]]
