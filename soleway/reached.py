"""The stands behind the rows of a form, and the lists of stands, numbered as they are come to."""

from soleway.errors import TooWide
from soleway.searches import Search
from soleway.walks import Walk

_MOST = 400


class Reached:
    """A form that is not wide, else refused with TooWide.

    Stands have numbers; None is number 0. `search` has the lists of stands behind rows, each a tuple of
    such numbers and a group of its own; `leads` tells for each of these groups the signs that may come,
    rising, each with the number of the group that it leads to.
    """

    def __init__(self, form):
        self.walk = Walk(form)
        self.stands = [None]
        self.numbers = {None: 0}
        self.known = {}
        self.leads = []
        self.search = Search((0,))
        while len(self.leads) < len(self.search.groups):
            self.leads.append(self._leads_from(len(self.leads)))

    def _leads_from(self, at):
        """For each sign that may come behind a list of stands the number of the list that it leads to."""
        told = {}
        lists = self.lists_behind(self.list_at(at))
        if len(self.stands) - 1 > _MOST:
            raise TooWide("more than four hundred stands are behind rows")
        for sign, members in lists.items():
            self.search.put(at, sign, [members])
            told[sign] = self.search.seen[members]
        if len(self.search.groups) > _MOST:
            raise TooWide("more than four hundred lists of stands are behind rows")
        return told

    def lists_behind(self, members):
        """For each sign that may come behind a list of stands the list that it leads to, signs rising."""
        told = {}
        for number in members:
            for sign, ways in self.ways_from(number).items():
                told.setdefault(sign, {}).update({behind: True for _, behind in ways})
        return {sign: tuple(sorted(told[sign])) for sign in sorted(told)}

    def list_at(self, at):
        """The list of stands of a number, as a tuple of the stands' numbers."""
        return self.search.groups[at][0]

    def list_ends(self, at):
        """Whether a stand of a list may end."""
        return self.one_ends(self.list_at(at))

    def one_ends(self, members):
        """Whether one of these stands may end."""
        return any([self.ends_at(number) for number in members])

    def list_behind(self, row):
        """The number of the list of stands behind a row, or None where there are none."""
        at = 0
        for sign in row:
            if sign not in self.leads[at]:
                return None
            at = self.leads[at][sign]
        return at

    def number_of(self, stand):
        """The number of a stand; one that no row comes to is given a number, too."""
        if stand not in self.numbers:
            self.numbers[stand] = len(self.stands)
            self.stands.append(stand)
        return self.numbers[stand]

    def taken(self, stand):
        """The number of a stand that the asker has."""
        return self.number_of(self.walk.taken_stand(stand))

    def told(self, number):
        """The stand of a number as the asker has it."""
        return self.walk.told_stand(self.stands[number])

    def told_list(self, at):
        """The list of stands of a number as the asker has it: a tuple, sorted."""
        stands = sorted([self.stands[number] for number in self.list_at(at)])
        return tuple([self.walk.told_stand(stand) for stand in stands])

    def ways_from(self, number):
        """The signs that may come behind a stand, rising, each with pairs of a step and the stand behind it."""
        return self._ways_on(number)[0]

    def ends_at(self, number):
        """Whether a stand may end."""
        return self._ways_on(number)[1]

    def _ways_on(self, number):
        """The ways on from a stand, and whether it may end, worked out where it is asked first."""
        if number not in self.known:
            told, ends = self.walk.ways_on(self.stands[number])
            ways = {sign: [(step, self.number_of(stand)) for step, stand in told[sign]] for sign in told}
            self.known[number] = (ways, ends)
        return self.known[number]

    def both_ways(self, one, other):
        """The pairs of a way on from the one stand and a way on from the other by the same sign."""
        others = self.ways_from(other)
        return {sign: [(way, beside) for way in ways for beside in others.get(sign, [])]
                for sign, ways in self.ways_from(one).items()}
