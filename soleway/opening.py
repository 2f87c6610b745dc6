"""Forms with their counts laid out."""

from soleway.errors import TooMany
from soleway.forms import PLAIN_COUNTS
from soleway.laid import laid, row_of

_MOST_PIECES = 300


def opened(form):
    """The form with each times but the plain ones put otherwise, those within first."""
    pieces = laid(form)
    told = [form for _ in pieces]
    many = [1 for _ in pieces]
    for number in reversed(range(len(pieces))):
        piece, parts = pieces[number]
        # Ahead of what is laid out it is counted: there may be far more than can be laid out.
        many[number] = _many_opened(piece, [many[part] for part in parts])
        if many[number] > _MOST_PIECES:
            raise TooMany(_MOST_PIECES)
        told[number] = _opened(piece, [told[part] for part in parts])
    return told[0]


def _many_opened(piece, parts):
    """How many pieces a piece has when it is opened, by how many its parts have then."""
    if piece[0] != "times" or (piece[2], piece[3]) in PLAIN_COUNTS:
        return 1 + sum(parts)
    low, high = piece[2], piece[3]
    if high is None:
        return 1 + low * parts[0] + 1
    more = high - low
    many = low * parts[0]
    if more > 0:
        # A times each, and a row around each part but the innermost.
        many += more * (1 + parts[0]) + more - 1
    return many + (1 if low + min(more, 1) > 1 else 0)


def _opened(piece, parts):
    """A piece opened, by its parts opened."""
    if piece[0] == "sign":
        return piece
    if piece[0] != "times":
        return (piece[0], tuple(parts))
    part, low, high = parts[0], piece[2], piece[3]
    if (low, high) in PLAIN_COUNTS:
        return ("times", part, low, high)
    if high is None:
        return row_of([part] * (low - 1) + [("times", part, 1, None)])
    if high == low:
        return row_of([part] * low)
    return row_of([part] * low + [_up_to(part, high - low)])


def _up_to(part, many):
    """A part none to so many times, one within the other."""
    told = ("times", part, 0, 1)
    for _ in range(many - 1):
        told = ("times", ("row", (part, told)), 0, 1)
    return told
