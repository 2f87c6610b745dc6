"""Whether one form lies within another, and the machines of what several rows have in common."""

from soleway.errors import TooWide
from soleway.machines import least, least_from, machine_of
from soleway.reached import Reached
from soleway.sides import Sides
from soleway.together import living, together

_MOST_ROOMS = 40


def within(one, other):
    """("within", paper), or ("beyond", the least row that the one form takes and the other not)."""
    sides = Sides(one, other, False)
    row = sides.parting_row()
    return ("within", sides.paper()) if row is None else ("beyond", row)


def is_within_paper(one, other, thing):
    """Whether a list is right as a paper that the one form lies within the other."""
    return Sides(one, other, False).is_paper(thing)


def both(one, other):
    """The least machine of the rows that both forms take, or None where there is none."""
    first, second = _small_machines(one, other)
    machine = living(together(first, second, True))
    return None if machine is None else least_from(machine, 0)


def either(one, other):
    """The least machine of the rows that the one form or the other takes."""
    first, second = _small_machines(one, other)
    return least_from(together(first, second, False), 0)


def _small_machines(one, other):
    """The least machines of two forms, refused where one has too many rooms."""
    machines = (least(one), least(other))
    if max([len(machine) for machine in machines]) > _MOST_ROOMS:
        raise TooWide("a least machine has more than forty rooms")
    return machines


def endings(form, row):
    """The least machine of all rows that put behind a row make one that the form takes, or None."""
    reached = Reached(form)
    first = reached.list_behind(row)
    return None if first is None else least_from(machine_of(reached), first)
