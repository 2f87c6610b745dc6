"""How many rows a form takes, and which number each of them has."""

from soleway.machines import least

_LONGEST = 100


def many_rows(form, n):
    """How many rows of so many signs a form takes."""
    machine = least(form)
    return _many_to_ends(machine, n)[n][0]


def row_at(form, number):
    """The row of a number, the shorter first, of equally long ones as Python sorts tuples; None without such.

    Where there is no longest row, rows of far more than a hundred signs are not looked for.
    """
    machine = least(form)
    counts = _many_to_ends(machine, max(_LONGEST, len(machine)))
    left = number
    for many, told in enumerate(counts):
        if left < told[0]:
            return _row_of(machine, counts, many, left)
        left -= told[0]
    return None


def number_of(form, row):
    """The number of a row, or None where the form does not take it."""
    machine = least(form)
    counts = _many_to_ends(machine, len(row))
    number = sum([told[0] for told in counts[:-1]])
    room = 0
    for at, sign in enumerate(row):
        left = len(row) - at - 1
        led_to = None
        for by, behind in machine[room][1]:
            if by < sign:
                number += counts[left][behind]
            if by == sign:
                led_to = behind
        if led_to is None:
            return None
        room = led_to
    return number if machine[room][0] else None


def most_signs(form):
    """The most signs that a row of a form has, or None where there is no most."""
    machine = least(form)
    rooms = [0]
    # In a row with as many signs as there are rooms one of them is come to twice.
    for many in range(len(machine)):
        rooms = sorted({behind for room in rooms for _, behind in machine[room][1]})
        if not rooms:
            return many
    return None


def _many_to_ends(machine, most):
    """For each number of signs up to `most` a list: for each room how many such rows lead from it to an end."""
    told = [[1 if ends else 0 for ends, _ in machine]]
    for _ in range(most):
        fewer = told[-1]
        told.append([sum([fewer[behind] for _, behind in steps]) for _, steps in machine])
    return told


def _row_of(machine, counts, many, number):
    """The row of a number among those of so many signs."""
    row = []
    room = 0
    left = number
    for fewer in reversed(range(many)):
        (sign, room), left = _step_at(machine[room][1], counts[fewer], left)
        row.append(sign)
    return tuple(row)


def _step_at(steps, many_from, number):
    """The step by which the row of a number goes on, and its number among the rows that go on by it."""
    left = number
    k = 0
    while left >= many_from[steps[k][1]]:
        left -= many_from[steps[k][1]]
        k += 1
    return (steps[k], left)
