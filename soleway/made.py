"""Whether rows have a plain form that tells places at once: that form, or a paper that there is none."""

from soleway.building import built
from soleway.errors import TooWide
from soleway.forms import is_plain, is_whole
from soleway.machines import least
from soleway.once import once
from soleway.orbits import cut, gates, is_bare, orbits, part_of, steady, steps_out

_MOST_ROOMS = 6


def made_once(form):
    """("made", a plain form that tells places at once and takes the same rows), or ("none", paper)."""
    machine = _small_machine(form)
    paper = _none_paper(machine)
    if paper is not None:
        return ("none", paper)
    if is_plain(form) and once(form)[0] == "once":
        return ("made", form)
    return ("made", built(machine))


def _small_machine(form):
    """The least machine of a form, refused where it has too many rooms."""
    machine = least(form)
    if len(machine) > _MOST_ROOMS:
        raise TooWide("the least machine has more than six rooms")
    return machine


def _none_paper(machine):
    """A paper that the rows of a machine have no such form, or None where they have one."""
    ahead = [(machine, ())]
    at = 0
    while at < len(ahead):
        here, downs = ahead[at]
        why = _why_none(here)
        if why is not None:
            return (downs, why)
        ahead.extend([(part_of(here, room), (*downs, room)) for room in _ways_down(here)])
        at += 1
    return None


def _ways_down(machine):
    """The least rooms of the orbits of the machine cut that are not bare."""
    after = cut(machine)
    return [orbit[0] for orbit in orbits(after) if not is_bare(after, orbit)]


def _why_none(machine):
    """Why, by the machine itself, its rows have no such form, or None."""
    if _is_closed(machine):
        return ("closed",)
    after = cut(machine)
    for orbit in orbits(after):
        first = gates(after, orbit)[0]
        for gate in gates(after, orbit):
            if _are_uneven(after, orbit, first, gate):
                return ("uneven", first, gate)
    return None


def _is_closed(machine):
    """Whether a machine is one orbit alone, not bare, and has no steady sign."""
    told = orbits(machine)
    return len(told) == 1 and not is_bare(machine, told[0]) and not steady(machine)


def _are_uneven(machine, orbit, one, other):
    """Whether one of two gates of an orbit ends or leads out of it as the other one does not."""
    if machine[one][0] != machine[other][0]:
        return True
    return steps_out(machine, orbit, one) != steps_out(machine, orbit, other)


def is_none_paper(form, thing):
    """Whether a thing is a right paper that there is no plain form that tells places at once and takes the rows."""
    machine = _small_machine(form)
    if not isinstance(thing, tuple) or len(thing) != 2 or not isinstance(thing[0], tuple):
        return False
    for room in thing[0]:
        if not is_whole(room) or room not in _ways_down(machine):
            return False
        machine = part_of(machine, room)
    return _is_why(machine, thing[1])


def _is_why(machine, thing):
    """Whether a thing tells rightly why the rows of a machine have no such form."""
    if not isinstance(thing, tuple):
        return False
    if thing == ("closed",):
        return _is_closed(machine)
    if len(thing) != 3 or thing[0] != "uneven" or not is_whole(thing[1]) or not is_whole(thing[2]):
        return False
    after = cut(machine)
    for orbit in orbits(after):
        told = gates(after, orbit)
        if thing[1] in told and thing[2] in told:
            return _are_uneven(after, orbit, thing[1], thing[2])
    return False
