"""Whether two forms take the same rows."""

from soleway.sides import Sides


def alike(one, other):
    """("alike", paper), or ("parted", the least row that just one of two forms takes)."""
    sides = Sides(one, other, True)
    row = sides.parting_row()
    return ("alike", sides.paper()) if row is None else ("parted", row)


def is_alike_paper(one, other, thing):
    """Whether a list is right as a paper that two forms take the same rows."""
    return Sides(one, other, True).is_paper(thing)
