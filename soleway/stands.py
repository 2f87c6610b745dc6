"""Stands: where in a form the sign that was read last stands, and how a run goes on from there."""

from soleway.reached import Reached
from soleway.searches import Search
from soleway.walks import Walk


def steps(form, stand, sign):
    """The steps from a stand by a sign, sorted; of one leaf that with None ahead."""
    walk = Walk(form)
    ways, _ = walk.ways_on(walk.taken_stand(stand))
    return [walk.told_step(step) for step, _ in ways.get(sign, [])]


def behind(form, stand, step):
    """The stand to which a step from a stand leads."""
    walk = Walk(form)
    ways, _ = walk.ways_on(walk.taken_stand(stand))
    taken = walk.taken_step(step)
    led_to = [led for way, led in ways[walk.sign_of(taken[0])] if way == taken]
    return walk.told_stand(led_to[0])


def may_end(form, stand):
    """Whether a stand may end."""
    walk = Walk(form)
    _, ends = walk.ways_on(walk.taken_stand(stand))
    return ends


def _read(walk, row):
    """Where runs stand behind a row, and how many of its signs are read until none stands any more."""
    standing = None
    for at, sign in enumerate(row):
        standing = walk.behind_sign(standing, sign)
        if not standing:
            return (standing, at)
    return (standing, len(row))


def stands(form, row):
    """The stands behind a row, sorted: [None] behind that without signs, [] where there are none."""
    walk = Walk(form)
    standing, _ = _read(walk, row)
    if standing is None:
        return [None]
    return [(walk.place_of(leaf), rounds) for leaf in sorted(standing) for rounds in sorted(standing[leaf])]


def may_come(form, row):
    """The signs that may come behind a row, sorted."""
    walk = Walk(form)
    standing, _ = _read(walk, row)
    entries, _ = walk.entries(standing)
    return sorted({walk.sign_of(leaf) for part, _, _ in entries for leaf, _ in walk.first_leaves(part)})


def first_wrong(form, row):
    """The number of the first sign behind which no run stands; the row's length where none may end there.

    It is None where the form takes the row.
    """
    walk = Walk(form)
    standing, many = _read(walk, row)
    if many < len(row):
        return many
    _, ends = walk.entries(standing)
    return None if ends else len(row)


def ending(form, row):
    """The least row that put behind a row makes one that the form takes, or None; refused where it is wide."""
    reached = Reached(form)
    first = reached.list_behind(row)
    if first is None:
        return None
    search = Search(first)
    at = 0
    here = first
    while not reached.list_ends(here):
        for sign, led_to in reached.leads[here].items():
            search.put(at, sign, [led_to])
        at += 1
        here = search.groups[at][0]
    return search.row_to(at)
