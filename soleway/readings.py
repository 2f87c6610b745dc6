"""How a form reads a row: whether, in how many ways, and by which readings."""

from soleway.errors import TooMany
from soleway.forms import is_whole, may_nothing
from soleway.laid import emptiness, fewest_rounds, laid, parts_of
from soleway.stretches import Stretches


def takes(form, row):
    """Whether a form takes a row."""
    return how_many(form, row) > 0


def how_many(form, row):
    """How many readings a row has by a form."""
    return Stretches(form, row).many()


def one_reading(form, row):
    """("read", a reading), any one, or ("none",)."""
    told = Stretches(form, row).some(1)
    return ("read", told[0]) if told else ("none",)


def all_readings(form, row, most):
    """All readings of a row, refused where they are more than `most`."""
    stretches = Stretches(form, row)
    if stretches.many() > most:
        raise TooMany(most)
    return stretches.some(most)


def is_reading(form, row, thing):
    """Whether a thing is a reading of a row by a form.

    What a thing has within it may be far more than can be gone through, so it is read along the
    row, and each piece of it must have a sign of the row left to read.
    """
    if len(row) == 0:
        return thing is None and may_nothing(form)
    pieces = laid(form)
    empty = emptiness(pieces)
    at = 0
    ahead = [(0, thing)]
    while ahead:
        number, told = ahead.pop()
        piece, parts = pieces[number]
        if at == len(row) or not _fits(piece, [empty[part] for part in parts], told):
            return False
        if piece[0] == "sign":
            if row[at] != piece[1]:
                return False
            at += 1
        ahead.extend([(parts[k], inner) for k, inner in _inner(told)][::-1])
    return at == len(row)


def _fits(piece, empty, thing):
    """Whether a thing is made as a reading of a piece is; its parts' readings are not looked into.

    `empty` tells of the parts whether they may take nothing.
    """
    if not isinstance(thing, tuple):
        return False
    if piece[0] == "sign":
        return thing == ("leaf",)
    if piece[0] == "pick":
        return len(thing) == 3 and thing[0] == "pick" and _is_number(thing[1], len(empty))
    if len(thing) != 2 or thing[0] != piece[0] or not isinstance(thing[1], tuple) or len(thing[1]) == 0:
        return False
    if piece[0] == "row":
        return _are_pairs(empty, thing[1])
    many = len(thing[1])
    return many >= fewest_rounds(piece[2], empty[0]) and (piece[3] is None or many <= piece[3])


def _are_pairs(empty, some):
    """Whether these are pairs with rising numbers of parts, and the other parts may take nothing."""
    low = 0
    for pair in some:
        if not isinstance(pair, tuple) or len(pair) != 2 or not _is_number(pair[0], len(empty)):
            return False
        if pair[0] < low or not all(empty[low:pair[0]]):
            return False
        low = pair[0] + 1
    return all(empty[low:])


def _is_number(thing, many):
    """Whether a thing is the number of one of so many parts."""
    return is_whole(thing) and 0 <= thing < many


def _inner(reading):
    """The readings within a reading, straight under it, each with its part's number."""
    if reading[0] == "row":
        return list(reading[1])
    if reading[0] == "pick":
        return [(reading[1], reading[2])]
    if reading[0] == "times":
        return [(0, part) for part in reading[1]]
    return []


def leaves_read(form, reading):
    """For each sign of the row the place of the sign piece that reads it."""
    told = []
    ahead = [] if reading is None else [((), form, reading)]
    while ahead:
        place, piece, read = ahead.pop()
        if piece[0] == "sign":
            told.append(place)
        inner = [((*place, k), parts_of(piece)[k], part) for k, part in _inner(read)]
        ahead.extend(inner[::-1])
    return told
