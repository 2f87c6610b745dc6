"""Readers, which hear a row sign by sign and tell of each at once where in the form it stands."""

from soleway.errors import NoSign, NotOnce
from soleway.forms import is_sign
from soleway.once import once
from soleway.reached import Reached


class Reader:
    """A reader of a form that tells places at once."""

    def __init__(self, form):
        if once(form)[0] != "once":
            raise NotOnce("the form does not tell places at once")
        self._reached = Reached(form)
        self._signs = []
        # The numbers of the lists of stands behind all beginnings of the row heard.
        self._lists = [0]

    def hear(self, sign):
        """Hear one more sign, and tell its leaf."""
        if not is_sign(sign) or sign not in self._ways_on():
            raise NoSign("that sign may not come")
        self._lists.append(self._ways_on()[sign])
        self._signs.append(sign)
        return self._leaf_of(self._lists[-1])

    def coming(self):
        """The signs that may come, sorted."""
        return list(self._ways_on())

    def ends_here(self):
        """Whether the row heard may end."""
        return self._reached.list_ends(self._lists[-1])

    def standing(self):
        """The stands that may be stood in, sorted."""
        return list(self._reached.told_list(self._lists[-1]))

    def heard(self):
        """The row heard."""
        return tuple(self._signs)

    def heard_at(self):
        """The leaves of the signs heard."""
        return [self._leaf_of(number) for number in self._lists[1:]]

    def back(self):
        """Go back by one sign."""
        if not self._signs:
            raise NoSign("no sign was heard")
        self._signs.pop()
        self._lists.pop()

    def _ways_on(self):
        """A dict of the signs that may come, rising, and the numbers of the lists to which they lead."""
        return self._reached.leads[self._lists[-1]]

    def _leaf_of(self, number):
        """The leaf that all stands of a list have."""
        leaf, _ = self._reached.told_list(number)[0]
        return leaf
