"""Searches for the least row that leads to a thing."""


class Search:
    """Things that are come to by signs from a first one on.

    They stand in groups: those to which the same row is the least. Where the groups are gone through
    as they were put in, with the signs rising, the rows of the groups rise, too. `seen` tells for each
    thing the number of its group.
    """

    def __init__(self, first):
        self.groups = [[first]]
        self.ahead = [None]
        self.seen = {first: 0}

    def put(self, at, sign, things):
        """Put in what a group leads to by a sign; told is what of it has not been come to yet."""
        fresh = []
        for thing in things:
            if thing not in self.seen:
                self.seen[thing] = len(self.groups)
                fresh.append(thing)
        if fresh:
            self.groups.append(fresh)
            self.ahead.append((at, sign))
        return fresh

    def row_to(self, at):
        """The least row that leads to a group."""
        told = []
        while self.ahead[at] is not None:
            at, sign = self.ahead[at]
            told.append(sign)
        return tuple(told[::-1])

    def all_things(self):
        """All things that have been come to, those of lesser rows first."""
        return [thing for group in self.groups for thing in group]
