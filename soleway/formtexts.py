"""Forms written as texts, and texts read as forms."""

from soleway.errors import NoText
from soleway.forms import MOST_PARTS, is_form, is_sign

_FIGURES = ("0", "1", "2", "3", "4", "5", "6", "7", "8", "9", "10", "11", "12")


def form_text(form):
    """The text that writes a form."""
    words = []
    ahead = [form]
    while ahead:
        piece = ahead.pop()
        if isinstance(piece, str):
            words.append(piece)
        else:
            ahead.extend(_spelled(piece)[::-1])
    return " ".join(words)


def _spelled(piece):
    """A list of the words of a piece, its parts standing among them as they are."""
    if piece[0] == "sign":
        return [piece[1]]
    if piece[0] == "row":
        return ["["] + list(piece[1]) + ["]"]
    if piece[0] == "pick":
        return ["("] + list(piece[1]) + [")"]
    if piece[3] is None:
        return [f"{piece[2]}..", piece[1]]
    return [f"{piece[2]}..{piece[3]}", piece[1]]


def read_form(text):
    """The form that a text writes."""
    words = text.split(" ")
    whole = []
    # Each open piece is the word that opens it and the parts read so far; no word opens the whole.
    opened = [("", whole)]
    for at, word in enumerate(words):
        if not _fits(opened, word):
            raise NoText(at)
        _take(opened, word)
    if not whole or not is_form(whole[0]):
        raise NoText(len(words))
    return whole[0]


def _fits(opened, word):
    """Whether a text may go on with a word: the words up to it begin the text of some form."""
    opener, parts = opened[-1]
    if word == "]":
        return opener == "["
    if word == ")":
        return opener == "(" and len(parts) > 0
    if word not in ("[", "(") and not is_sign(word) and _counts(word) is None:
        return False
    return len(parts) < (MOST_PARTS if opener in ("[", "(") else 1)


def _take(opened, word):
    """Go on with a word that fits."""
    if word == "]":
        _, parts = opened.pop()
        _put(opened, ("row", tuple(parts)))
    elif word == ")":
        _, parts = opened.pop()
        _put(opened, ("pick", tuple(parts)))
    elif is_sign(word):
        _put(opened, ("sign", word))
    else:
        opened.append((word, []))


def _put(opened, form):
    """Put a form that is read to its end into the open piece; a times ends with its part."""
    made = form
    counts = _counts(opened[-1][0])
    while counts is not None:
        opened.pop()
        made = ("times", made, counts[0], counts[1])
        counts = _counts(opened[-1][0])
    opened[-1][1].append(made)


def _counts(word):
    """The pair of counts that a word writes, or None."""
    low_word, dots, high_word = word.partition("..")
    if dots == "" or low_word not in _FIGURES:
        return None
    low = _FIGURES.index(low_word)
    if high_word == "":
        return (low, None)
    if high_word not in _FIGURES or _FIGURES.index(high_word) < max(low, 1):
        return None
    return (low, _FIGURES.index(high_word))
