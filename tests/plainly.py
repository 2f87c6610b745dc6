"""What the document says of readings, put down word for word and slowly, for the tests to go by."""

from itertools import product

A = ("sign", "a")
B = ("sign", "b")


def may_nothing(form):
    kind = form[0]
    if kind == "sign":
        return False
    if kind == "row":
        return all(may_nothing(part) for part in form[1])
    if kind == "pick":
        return any(may_nothing(part) for part in form[1])
    return form[2] == 0 or may_nothing(form[1])


def readings(form, row):
    """All readings of a row by a form."""
    if row == ():
        return [None] if may_nothing(form) else []
    kind = form[0]
    if kind == "sign":
        return [("leaf",)] if row == (form[1],) else []
    if kind == "row":
        return [("row", some) for some in shared(form[1], 0, row)]
    if kind == "pick":
        return [("pick", k, reading) for k, part in enumerate(form[1]) for reading in readings(part, row)]
    return [("times", rounds) for rounds in cut(form[1], row) if may_be_so_many(form, len(rounds))]


def may_be_so_many(form, many):
    _, part, low, high = form
    return (high is None or many <= high) and (many >= low or may_nothing(part))


def shared(parts, k, row):
    """The tuples of pairs by which the parts from number k on read a row."""
    if k == len(parts):
        return [()] if row == () else []
    told = []
    for end in range(len(row) + 1):
        for reading in readings(parts[k], row[:end]):
            first = () if end == 0 else ((k, reading),)
            told += [first + rest for rest in shared(parts, k + 1, row[end:])]
    return told


def cut(part, row):
    """The tuples of readings by one part of stretches with signs that are the row."""
    if row == ():
        return [()]
    told = []
    for end in range(1, len(row) + 1):
        for reading in readings(part, row[:end]):
            told += [(reading, *rest) for rest in cut(part, row[end:])]
    return told


def rows_up_to(signs, many):
    """All rows of these signs, up to so many."""
    return [row for length in range(many + 1) for row in product(signs, repeat=length)]


def small_forms():
    """Forms of every kind in one another, many of them with parts that may take nothing."""
    seeds = [A, B, ("row", ())]
    told = list(seeds)
    for counts in [(0, 1), (0, None), (1, 1), (1, 2), (2, 2), (2, 3), (2, None), (0, 3), (3, None)]:
        told += [("times", part, *counts) for part in seeds]
    pairs = [(A, A), (A, B), (("times", A, 0, 1), A), (("times", A, 0, None), ("times", B, 0, 2)),
             (A, ("row", ())), (("times", A, 1, 2), ("times", A, 0, 2)), (A, ("row", (A, A)), B)]
    groups = [(kind, parts) for kind in ("row", "pick") for parts in pairs]
    told += groups
    for counts in [(0, 1), (0, 2), (0, None), (1, 2), (1, None), (2, 2), (2, 3), (2, None), (3, 3)]:
        told += [("times", part, *counts) for part in groups]
    told += [("row", (part, A)) for part in told] + [("row", (part, part)) for part in groups]
    told += [("pick", (part, A, part)) for part in groups]
    told += [("times", ("times", part, *inner), *outer) for part in (A, ("pick", (A, A)), ("row", (A, B)))
             for inner in [(0, 1), (1, 2), (2, 2), (0, None), (2, None)] for outer in [(2, 2), (0, 2), (2, None)]]
    return told


def signs_read(form, reading, place=(), around=()):
    """For each sign of a reading its leaf, and the times around it with the numbers of their rounds.

    The times are told from the outermost inwards, as triples: its place, the number of its round, and
    that number as stands have it.
    """
    if reading is None:
        return []
    kind = form[0]
    if kind == "sign":
        return [(place, around)]
    if kind == "row":
        return [told for k, inner in reading[1] for told in signs_read(form[1][k], inner, (*place, k), around)]
    if kind == "pick":
        return signs_read(form[1][reading[1]], reading[2], (*place, reading[1]), around)
    told = []
    for number, inner in enumerate(reading[1], 1):
        here = (place, number, told_round(form, number))
        told += signs_read(form[1], inner, (*place, 0), (*around, here))
    return told


def told_round(form, number):
    """The number of a times' round as stands have it."""
    _, part, low, high = form
    if high is not None:
        return number
    return 1 if may_nothing(part) else min(number, max(1, low))


def run_of(form, reading):
    """The run that a reading is: a tuple of pairs of a step and the stand behind it."""
    told = []
    ahead = ()
    for leaf, around in signs_read(form, reading):
        begun = [here[0] for there, here in zip(ahead, around) if there[0] == here[0] and there[1] != here[1]]
        told.append(((leaf, begun[0] if begun else None), (leaf, tuple(here[2] for here in around))))
        ahead = around
    return tuple(told)


def shortlex(rows):
    """Rows, the shorter first, of equally long ones as Python sorts tuples."""
    return sorted(rows, key=lambda row: (len(row), row))


def leaves_with_rounds(form, place=(), most=()):
    """The leaves of a form, each with the most that each times around it counts to."""
    kind = form[0]
    if kind == "sign":
        return [(place, most)]
    if kind == "times":
        high = form[3] if form[3] is not None else told_round(form, 100)
        return leaves_with_rounds(form[1], (*place, 0), (*most, high))
    return [told for k, part in enumerate(form[1]) for told in leaves_with_rounds(part, (*place, k), most)]


def all_stands(form):
    """None, and each leaf with each number of rounds that it may have."""
    told = [None]
    for leaf, most in leaves_with_rounds(form):
        told += [(leaf, rounds) for rounds in product(*[range(1, high + 1) for high in most])]
    return told


def counted_forms():
    """Forms with times within times, three of them also, and rounds that lack or may be without signs."""
    counts = [(0, 1), (1, 2), (2, 2), (2, None), (0, None), (1, 3)]
    told = [("times", ("times", ("times", A, *inner), *between), *outer)
            for inner in counts[:4] for between in counts[1:5] for outer in counts[1:5]]
    told += [("times", ("row", (("times", A, *inner), ("times", B, 0, 1))), *outer)
             for inner in counts for outer in counts]
    told += [("times", ("pick", (("times", A, *inner), ("row", (A, B)), B)), *outer)
             for inner in counts for outer in counts]
    told += [("times", ("row", (("times", ("row", (A, ("times", B, *inner))), *between), A)), *outer)
             for inner in counts[:4] for between in counts[:4] for outer in counts[:4]]
    return told
