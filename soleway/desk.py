"""The desk, which keeps forms under names and answers rows of words."""

from soleway.alike import alike
from soleway.errors import NoName, NoRow, NoText
from soleway.forms import is_sign, pieces
from soleway.formtexts import form_text, read_form
from soleway.made import made_once
from soleway.numbers import many_rows
from soleway.once import once
from soleway.readings import how_many, takes
from soleway.sure import single, sure
from soleway.within import within

_MOST_LETTERS = 8
_MOST_SIGNS = 60
_MOST_COUNTED = 100
# How many names stand behind the first word of a row.
_NAMES = {"form": 1, "takes": 1, "ways": 1, "once": 1, "sure": 1, "single": 1, "alike": 2, "within": 2, "made": 1,
          "count": 1, "text": 1}


class Desk:
    """A desk, and the forms that it keeps."""

    def __init__(self):
        self._kept = {}

    def say(self, row):
        """The answer to a row of words."""
        words = row.split(" ") if isinstance(row, str) else [""]
        if not _is_known(words):
            raise NoRow("that is no row of words that a desk knows")
        if words[0] == "form":
            return self._keep(words[1], words[2:])
        behind = 1 + _NAMES[words[0]]
        return _answer(words[0], [self._form_of(name) for name in words[1:behind]], words[behind:])

    def _keep(self, name, words):
        """Keep the form that words write under a name, and tell its number of pieces."""
        try:
            form = read_form(" ".join(words))
        except NoText as wrong:
            # Two words stand in the row ahead of the text.
            raise NoText(wrong.at + 2) from None
        self._kept[name] = form
        return str(pieces(form))

    def _form_of(self, name):
        """The form that is kept under a name."""
        if name not in self._kept:
            raise NoName("nothing is kept under that name")
        return self._kept[name]


def _is_known(words):
    """Whether words are a row that a desk knows, by the words alone."""
    if words[0] not in _NAMES:
        return False
    behind = 1 + _NAMES[words[0]]
    if len(words) < behind or not all([_is_name(word) for word in words[1:behind]]):
        return False
    rest = words[behind:]
    if words[0] == "form":
        return len(rest) > 0
    if words[0] in ("takes", "ways"):
        return _are_signs(rest)
    if words[0] == "count":
        return len(rest) == 1 and _is_count(rest[0])
    return len(rest) == 0


def _is_name(word):
    """Whether a word is one to eight small letters."""
    return 1 <= len(word) <= _MOST_LETTERS and all("a" <= letter <= "z" for letter in word)


def _are_signs(words):
    """Whether words write a row of signs."""
    return words == ["-"] or (1 <= len(words) <= _MOST_SIGNS and all([is_sign(word) for word in words]))


def _is_count(word):
    """Whether a word is a number of signs that may be asked for."""
    return word in [str(number) for number in range(_MOST_COUNTED + 1)]


def _row_of_words(words):
    """The row of signs that words write."""
    return () if words == ["-"] else tuple(words)


def _answer(word, forms, rest):
    """The answer to a row by its first word, the forms of its names and its other words."""
    if word == "takes":
        return "yes" if takes(forms[0], _row_of_words(rest)) else "no"
    if word == "ways":
        return str(how_many(forms[0], _row_of_words(rest)))
    if word == "count":
        return str(many_rows(forms[0], int(rest[0])))
    if word == "text":
        return form_text(forms[0])
    if word == "made":
        told = made_once(forms[0])
        return form_text(told[1]) if told[0] == "made" else "none"
    return _yes_or_row(word, _told_by(word, forms))


def _told_by(word, forms):
    """What the function of a word tells of forms."""
    if word == "once":
        return once(forms[0])
    if word == "sure":
        return sure(forms[0])
    if word == "single":
        return single(forms[0])
    if word == "alike":
        return alike(forms[0], forms[1])
    return within(forms[0], forms[1])


def _yes_or_row(word, told):
    """Yes, where what is told begins with the word that was asked by, else no and the row that is told."""
    if told[0] == word:
        return "yes"
    return "no " + (" ".join(told[1]) if told[1] else "-")
