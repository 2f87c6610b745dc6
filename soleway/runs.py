"""Runs: rows of steps, and the readings that they are.

A run is told within the program as a list of steps, as soleway.walks has them.
"""

from soleway.stretches import made


def ending_runs(reached, row, most):
    """Runs along a row that may end: all, or `most` where there are more."""
    alive = _alive(reached, row)
    told = []
    ahead = [(0, ())] if 0 in alive[0] else []
    while ahead and len(told) < most:
        number, run = ahead.pop()
        at = len(run)
        if at == len(row):
            told.append(list(run))
        else:
            for step, behind in reached.ways_from(number)[row[at]]:
                if behind in alive[at + 1]:
                    ahead.append((behind, (*run, step)))
    return told


def _alive(reached, row):
    """For each beginning of a row the stands behind it from which a run may go on to the row's end and end."""
    members = [[0]]
    for sign in row:
        ways = [way for number in members[-1] for way in reached.ways_from(number).get(sign, [])]
        members.append(sorted({behind for _, behind in ways}))
    told = [{number: True for number in members[-1] if reached.ends_at(number)}]
    for at in reversed(range(len(row))):
        later = told[-1]
        told.append({number: True for number in members[at]
                     if any([behind in later for _, behind in reached.ways_from(number).get(row[at], [])])})
    return told[::-1]


def told_run(walk, run):
    """A run as the asker has it."""
    return [walk.told_step(step) for step in run]


def reading_of(walk, run):
    """The reading that a run with signs is, where it may end.

    Each open piece has the pairs of a part's number and its reading that are read so far. A step
    closes the pieces that it leaves, and opens those that it enters.
    """
    opened = [(0, [])]
    for leaf, again in run:
        path = _path_to(walk, leaf)
        left = path.index(again) + 1 if again in path else _alike(path, [number for number, _ in opened])
        _close(walk, opened, left)
        opened.extend([(number, []) for number in path[left:]])
    _close(walk, opened, 1)
    return made(walk.pieces[0][0], tuple(opened[0][1]))


def _path_to(walk, leaf):
    """The numbers of the pieces around a leaf, from the whole inwards, and its own."""
    told = [leaf]
    while told[-1] > 0:
        told.append(walk.around[told[-1]][0])
    return told[::-1]


def _alike(path, other):
    """How many pieces two paths have in common."""
    many = 0
    while many < min(len(path), len(other)) and path[many] == other[many]:
        many += 1
    return many


def _close(walk, opened, left):
    """Close open pieces from the innermost on, until so many are left."""
    while len(opened) > left:
        number, pairs = opened.pop()
        _, k = walk.around[number]
        opened[-1][1].append((k, made(walk.pieces[number][0], tuple(pairs))))
