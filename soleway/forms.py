"""Signs, rows and forms, and what is told of the pieces of a form."""

from soleway.laid import emptiness, laid, parts_of

MOST_PARTS = 8
PLAIN_COUNTS = ((0, 1), (0, None), (1, None))
_MOST_LETTERS = 6
_MOST_COUNT = 12
_MOST_PIECES = 60
_MOST_DEEP = 12
_MOST_TIMES = 3
_MOST_SIGNS = 6


def is_whole(thing):
    """Whether a thing is a whole number: a truth is none."""
    return isinstance(thing, int) and not isinstance(thing, bool)


def is_sign(thing):
    """Whether a thing is a text of one to six small letters."""
    if not isinstance(thing, str) or not 1 <= len(thing) <= _MOST_LETTERS:
        return False
    return all("a" <= letter <= "z" for letter in thing)


def is_row(thing):
    """Whether a thing is a tuple of signs, perhaps none."""
    return isinstance(thing, tuple) and all(is_sign(sign) for sign in thing)


def is_form(thing):
    """Whether a thing is a form within all bounds.

    It stops at the first piece too many: tuples that stand in one another many times over have
    far more pieces than can be gone through.
    """
    many = 0
    ahead = [(thing, 1, 0)]
    while ahead:
        piece, deep, times = ahead.pop()
        many += 1
        if many > _MOST_PIECES or deep > _MOST_DEEP or not _is_piece(piece):
            return False
        if piece[0] == "times":
            times += 1
        if times > _MOST_TIMES:
            return False
        for part in parts_of(piece):
            ahead.append((part, deep + 1, times))
    return len(signs_of(thing)) <= _MOST_SIGNS


def _is_piece(thing):
    """Whether a thing is made as a piece is; into its parts it does not look."""
    if not isinstance(thing, tuple) or len(thing) < 2:
        return False
    if thing[0] == "times":
        return len(thing) == 4 and _are_counts(thing[2], thing[3])
    if len(thing) != 2:
        return False
    if thing[0] == "sign":
        return is_sign(thing[1])
    if thing[0] == "row":
        return _are_parts(thing[1], 0)
    return thing[0] == "pick" and _are_parts(thing[1], 1)


def _are_parts(thing, fewest):
    """Whether a thing is a tuple of so many items as a piece may have parts."""
    return isinstance(thing, tuple) and fewest <= len(thing) <= MOST_PARTS


def _are_counts(low, high):
    """Whether a times may have these two counts."""
    if not is_whole(low) or not 0 <= low <= _MOST_COUNT:
        return False
    if high is None:
        return True
    return is_whole(high) and max(low, 1) <= high <= _MOST_COUNT


def pieces(form):
    """How many pieces a form has: it and all within it."""
    return len(laid(form))


def places(form):
    """The places of all pieces, the whole's first, then those of part 0, and so on."""
    return [place for place, _ in _placed(form)]


def leaves(form):
    """The places of the sign pieces, in the order of the places."""
    return [place for place, piece in _placed(form) if piece[0] == "sign"]


def _placed(form):
    """A list of pairs: each place, and the piece that stands there."""
    told = []
    ahead = [((), form)]
    while ahead:
        place, piece = ahead.pop()
        told.append((place, piece))
        inner = [((*place, k), part) for k, part in enumerate(parts_of(piece))]
        ahead.extend(inner[::-1])
    return told


def piece_at(form, place):
    """The piece at a place of a form."""
    piece = form
    for k in place:
        piece = parts_of(piece)[k]
    return piece


def may_nothing(form):
    """Whether a form may take nothing."""
    return emptiness(laid(form))[0]


def is_plain(form):
    """Whether each times of a form is 0..1, 0.. or 1.. of its part."""
    counts = [(piece[2], piece[3]) for piece, _ in laid(form) if piece[0] == "times"]
    return all(pair in PLAIN_COUNTS for pair in counts)


def signs_of(form):
    """The signs of a form, sorted, each once."""
    return sorted({piece[1] for piece, _ in laid(form) if piece[0] == "sign"})
