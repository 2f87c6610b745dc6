"""Two forms gone through side by side: pairs of lists of stands, of the one and of the other.

Papers of alike and of within are lists of such pairs. For alike what holds of either side of a pair must
hold of the other, too (`mutual`); for within only what holds of the first must hold of the second.
"""

from soleway.reached import Reached
from soleway.searches import Search


class Lists:
    """The lists of stands of a form that is not wide, come to by rows or not: tuples of the stands' numbers."""

    def __init__(self, form):
        self.reached = Reached(form)
        self.ends = [self.reached.list_ends(at) for at in range(len(self.reached.leads))]
        self.known = {}

    def taken_list(self, thing):
        """The list of stands that anything is, or None where it is none."""
        walk = self.reached.walk
        if not isinstance(thing, tuple) or not all([walk.is_stand(item) for item in thing]):
            return None
        if None in thing:
            return (0,) if len(thing) == 1 else None
        if not all([stand < later for stand, later in zip(thing, thing[1:])]):
            return None
        return tuple(sorted([self.reached.taken(stand) for stand in thing]))

    def ways_on(self, members):
        """Whether a list may end, and a dict of the signs that lead on from it and the lists they lead to."""
        if members not in self.known:
            self.known[members] = (self.reached.one_ends(members), self.reached.lists_behind(members))
        return self.known[members]

    def come_to(self, at):
        """The same of the list of a number that rows come to; None is the number of that without stands."""
        return (False, {}) if at is None else (self.ends[at], self.reached.leads[at])

    def all_told(self):
        """All lists that rows come to, as the asker has them."""
        return [self.reached.told_list(at) for at in range(len(self.reached.leads))]


class Sides:
    """Two forms, neither of them wide."""

    def __init__(self, one, other, mutual):
        self.one = Lists(one)
        self.other = Lists(other)
        self.mutual = mutual
        self.search = Search((0, 0))

    def parting_row(self):
        """The least row that the first takes and the second not, or also the other way round; None without such."""
        at = 0
        while at < len(self.search.groups):
            here, beside = self.search.groups[at][0]
            ends, leads = self.one.come_to(here)
            ending, leading = self.other.come_to(beside)
            if not self._agree(ends, ending):
                return self.search.row_to(at)
            signs = sorted(set(list(leads) + list(leading))) if self.mutual else list(leads)
            for sign in signs:
                self.search.put(at, sign, [(leads.get(sign), leading.get(sign))])
            at += 1
        return None

    def paper(self):
        """The pairs of lists behind the same rows, where there is no parting row and it was asked for."""
        told = self.one.all_told()
        others = self.other.all_told()
        return [(told[here], others[beside]) for here, beside in self.search.all_things()]

    def is_paper(self, thing):
        """Whether a list is right as a paper."""
        if not isinstance(thing, list):
            return False
        pairs = {}
        for item in thing:
            pair = self._taken_pair(item)
            if pair is None:
                return False
            pairs[pair] = True
        return ((0,), (0,)) in pairs and all([self._is_closed(pair, pairs) for pair in pairs])

    def _agree(self, first, second):
        """Whether what holds of the first holds of the second, and the other way round where that is asked."""
        return first == second if self.mutual else second or not first

    def _taken_pair(self, thing):
        """The pair of lists of stands that anything is, or None where it is none."""
        if not isinstance(thing, tuple) or len(thing) != 2:
            return None
        members = self.one.taken_list(thing[0])
        beside = self.other.taken_list(thing[1])
        return None if members is None or beside is None else (members, beside)

    def _is_closed(self, pair, pairs):
        """Whether the sides of a pair agree, and the pairs to which signs lead are there."""
        ends, behind = self.one.ways_on(pair[0])
        ending, beside = self.other.ways_on(pair[1])
        if not self._agree(ends, ending) or (self.mutual and len(behind) != len(beside)):
            return False
        return all([sign in beside and (behind[sign], beside[sign]) in pairs for sign in behind])
