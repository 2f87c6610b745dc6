"""In how many ways each piece of a form reads each stretch of a row.

What a piece reads is told by a chain of slots. A link leads from a slot to a later one, and a
part of the piece reads a stretch with signs along it, or none where the link may be skipped; the
rounds of a times without an upper count end in a slot with a link back to itself. A reading of a
stretch goes along links from slot 0 to a slot at which the piece may end.
"""

from soleway.laid import emptiness, fewest_rounds, laid


def chain_of(piece, parts, empty):
    """The chain of a piece: its links, earlier slots first, and the first slot at which it may end.

    A link is a tuple (slot, slot behind, the part's number within the piece, its number among all
    pieces, whether the link may be skipped).
    """
    if piece[0] == "row":
        return ([(k, k + 1, k, part, empty[part]) for k, part in enumerate(parts)], len(parts))
    if piece[0] == "pick":
        return ([(0, 1, k, part, False) for k, part in enumerate(parts)], 1)
    if piece[0] == "times":
        return _round_chain(piece[2], piece[3], parts[0], empty[parts[0]])
    return ([], 0)


def _round_chain(low, high, part, part_empty):
    """The chain of a times: a slot for each number of rounds that must be told from others."""
    fewest = fewest_rounds(low, part_empty)
    last = fewest if high is None else high
    links = [(many, many + 1, 0, part, False) for many in range(last)]
    if high is None:
        links.append((last, last, 0, part, False))
    return (links, fewest)


def _carry(here, behind, part_ways, skipped):
    """Add to the ends behind a link what comes of the ends ahead of it."""
    for at, many in here.items():
        if skipped:
            behind[at] = behind.get(at, 0) + many
        for end, more in part_ways[at].items():
            behind[end] = behind.get(end, 0) + many * more


def _carry_round(here, part_ways):
    """Add to the ends at a slot what comes of them by its link to itself.

    Each round goes forward, so the ends are done in rising order: what is added lies ahead.
    """
    for at, ways in enumerate(part_ways):
        many = here.get(at, 0)
        if many > 0:
            for end, more in ways.items():
                here[end] = here.get(end, 0) + many * more


def made(piece, stretches):
    """The reading of a piece, of pairs of a part's number and its reading."""
    if piece[0] == "sign":
        return ("leaf",)
    if piece[0] == "row":
        return ("row", stretches)
    if piece[0] == "pick":
        return ("pick", stretches[0][0], stretches[0][1])
    return ("times", tuple([reading for _, reading in stretches]))


class Stretches:
    """A form and a row.

    `ways` tells, for each piece and each start in the row, the ends of the stretches with signs
    that the piece reads, each with the number of readings.
    """

    def __init__(self, form, row):
        self.row = row
        self.pieces = laid(form)
        self.empty = emptiness(self.pieces)
        self.chains = [chain_of(piece, parts, self.empty) for piece, parts in self.pieces]
        self.ways = [[] for _ in self.pieces]
        for number in reversed(range(len(self.pieces))):
            self.ways[number] = [self._ends(number, start) for start in range(len(row) + 1)]

    def many(self):
        """How many readings the whole row has."""
        if len(self.row) == 0:
            return 1 if self.empty[0] else 0
        return self.ways[0][0].get(len(self.row), 0)

    def some(self, most):
        """Readings of the whole row: all, or so many as `most` says where there are more."""
        if self.many() == 0:
            return []
        if len(self.row) == 0:
            return [None]
        wanted = self._wanted(most)
        told = [{} for _ in self.pieces]
        for number in reversed(range(len(self.pieces))):
            for stretch, splits in wanted[number].items():
                told[number][stretch] = self._readings(number, splits, told, most)
        return told[0][(0, len(self.row))]

    def _ends(self, number, start):
        """The ends of the stretches from a start that a piece reads, each with its number of readings."""
        piece, _ = self.pieces[number]
        if piece[0] == "sign":
            return {start + 1: 1} if self.row[start:start + 1] == (piece[1],) else {}
        _, done = self.chains[number]
        told = {}
        for slot in self._slots(number, start)[done:]:
            for end, many in slot.items():
                if end > start:
                    told[end] = told.get(end, 0) + many
        return told

    def _slots(self, number, start):
        """For each slot of a piece's chain: where it may be come to from a start, in how many ways."""
        links, _ = self.chains[number]
        told = [{} for _ in range(max([link[1] for link in links], default=0) + 1)]
        told[0][start] = 1
        for slot, behind, _, part, skipped in links:
            if slot == behind:
                _carry_round(told[slot], self.ways[part])
            else:
                _carry(told[slot], told[behind], self.ways[part], skipped)
        return told

    def _wanted(self, most):
        """For each piece the stretches that it reads in a reading of the whole row, each with splits."""
        told = [{} for _ in self.pieces]
        told[0][(0, len(self.row))] = []
        for number in range(len(self.pieces)):
            slots = {}
            for start, end in list(told[number]):
                if start not in slots:
                    slots[start] = self._slots(number, start)
                splits = self._splits(number, slots[start], end, most)
                told[number][(start, end)] = splits
                for split in splits:
                    for _, part, first, behind in split:
                        told[part][(first, behind)] = []
        return told

    def _splits(self, number, slots, end, most):
        """How the parts of a piece may share a stretch: all ways, or `most` where there are more.

        A split is a tuple of (the part's number within the piece, its number among all pieces, start,
        end). It is found from its end: a place at a slot has been come to, so no way back is a blind one.
        """
        links, done = self.chains[number]
        if self.pieces[number][0][0] == "sign":
            return [()]
        told = []
        ahead = [(slot, end, ()) for slot in range(done, len(slots)) if end in slots[slot]]
        while ahead and len(told) < most:
            slot, at, later = ahead.pop()
            if slot == 0:
                told.append(later)
            for link in links:
                if link[1] == slot:
                    ahead.extend(self._steps_back(link, slots[link[0]], at, later))
        return told

    def _steps_back(self, link, starts, at, later):
        """Where a way back along a link may come to, with what it has gone by."""
        slot, _, k, part, skipped = link
        told = [(slot, at, later)] if skipped and at in starts else []
        for start in starts:
            if at in self.ways[part][start]:
                told.append((slot, start, ((k, part, start, at), *later)))
        return told

    def _readings(self, number, splits, told, most):
        """The readings of a stretch by its splits and what is told of the parts."""
        readings = []
        for split in splits:
            rows = [()]
            for k, part, start, end in split:
                rows = [(*row, (k, reading)) for row in rows for reading in told[part][(start, end)]][:most]
            readings.extend([made(self.pieces[number][0], row) for row in rows])
        return readings[:most]
