"""The pieces of a form laid out in a list.

Forms may be far deeper than those that is_form lets pass, so nothing here calls itself: the
pieces are numbered in the order of their places, each behind the piece around it. Who goes
through the numbers upwards sees each piece ahead of its parts; downwards, behind them.
"""


def parts_of(form):
    """The parts of a form: none of a sign, one of a times."""
    if form[0] == "sign":
        return ()
    if form[0] == "times":
        return (form[1],)
    return form[1]


def row_of(forms):
    """The row of forms; of one alone it is that form."""
    return forms[0] if len(forms) == 1 else ("row", tuple(forms))


def laid(form):
    """A list of pairs: each piece, and a list of the numbers of its parts."""
    told = []
    ahead = [(form, 0)]
    while ahead:
        piece, around = ahead.pop()
        number = len(told)
        told.append((piece, []))
        if number > 0:
            told[around][1].append(number)
        for part in parts_of(piece)[::-1]:
            ahead.append((part, number))
    return told


def emptiness(pieces):
    """For each of the pieces that are laid whether it may take nothing."""
    told = [False for _ in pieces]
    for number in reversed(range(len(pieces))):
        piece, parts = pieces[number]
        told[number] = _may_be_empty(piece, [told[part] for part in parts])
    return told


def _may_be_empty(piece, parts):
    """Whether a piece may take nothing, by what is told of its parts."""
    if piece[0] == "row":
        return all(parts)
    if piece[0] == "pick":
        return any(parts)
    return piece[0] == "times" and (piece[2] == 0 or parts[0])


def fewest_rounds(low, part_empty):
    """The fewest rounds with signs of a times, where there is one.

    A part that may take nothing makes up for the rounds that lack by rounds without signs.
    """
    return 1 if part_empty else max(low, 1)
