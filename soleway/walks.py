"""How runs go on in a form that is laid out.

Leaves and times are told here by the numbers of their pieces, which rise as their places do. A stand
is None or (leaf, rounds), a step (leaf, again); where no times begins its next round, again is
NOT_AGAIN, which is below all numbers.
"""

from soleway.forms import is_whole
from soleway.laid import emptiness, fewest_rounds, laid

NOT_AGAIN = -1


def _arounds(pieces):
    """For each of the pieces that are laid the piece around it, and its part's number there."""
    told = [(0, 0) for _ in pieces]
    for number, (_, parts) in enumerate(pieces):
        for k, part in enumerate(parts):
            told[part] = (number, k)
    return told


def _count_bounds(pieces, empty):
    """For each times the fewest rounds that it does not lack, and the most that are told apart."""
    told = {}
    for number, (piece, parts) in enumerate(pieces):
        if piece[0] == "times":
            fewest = fewest_rounds(piece[2], empty[parts[0]])
            told[number] = (fewest, fewest if piece[3] is None else piece[3])
    return told


class Walk:
    """A form, and how runs go on in it."""

    def __init__(self, form):
        self.pieces = laid(form)
        self.empty = emptiness(self.pieces)
        self.around = _arounds(self.pieces)
        self.bounds = _count_bounds(self.pieces, self.empty)
        self.firsts = {}

    def place_of(self, number):
        """The place of a piece."""
        told = []
        at = number
        while at > 0:
            at, k = self.around[at]
            told.append(k)
        return tuple(told[::-1])

    def piece_in(self, place):
        """The number of the piece at a place, or None where there is none; of any tuple."""
        number = 0
        for k in place:
            parts = self.pieces[number][1]
            if not is_whole(k) or not 0 <= k < len(parts):
                return None
            number = parts[k]
        return number

    def told_stand(self, stand):
        """A stand as the asker has it."""
        return None if stand is None else (self.place_of(stand[0]), stand[1])

    def told_step(self, step):
        """A step as the asker has it."""
        leaf, again = step
        return (self.place_of(leaf), None if again == NOT_AGAIN else self.place_of(again))

    def taken_stand(self, stand):
        """A stand that the asker has, as it is told here."""
        return None if stand is None else (self.piece_in(stand[0]), stand[1])

    def taken_step(self, step):
        """A step that the asker has, as it is told here."""
        leaf, again = step
        return (self.piece_in(leaf), NOT_AGAIN if again is None else self.piece_in(again))

    def is_stand(self, thing):
        """Whether anything is a stand as the asker has it, come to or not."""
        if thing is None:
            return True
        if not isinstance(thing, tuple) or len(thing) != 2 or not isinstance(thing[0], tuple):
            return False
        leaf = self.piece_in(thing[0])
        if leaf is None or self.pieces[leaf][0][0] != "sign" or not isinstance(thing[1], tuple):
            return False
        bounds = self._bounds_around(leaf)
        if len(thing[1]) != len(bounds):
            return False
        return all(is_whole(many) and 1 <= many <= most for many, (_, most) in zip(thing[1], bounds))

    def _bounds_around(self, leaf):
        """The bounds of the times around a leaf, from the outermost inwards."""
        told = []
        at = leaf
        while at > 0:
            at, _ = self.around[at]
            if at in self.bounds:
                told.append(self.bounds[at])
        return told[::-1]

    def sign_of(self, leaf):
        """The sign of a leaf."""
        return self.pieces[leaf][0][1]

    def entries(self, standing):
        """Where runs may go on, and whether one of them may end.

        `standing` has the leaves at which they stand, each with a dict of rounds; ahead of all signs it
        is None. Told are triples: the piece that is entered, the times that begins its next round
        there or NOT_AGAIN, and a dict of rounds of the times around that piece.
        """
        if standing is None:
            return ([(0, NOT_AGAIN, {(): True})], self.empty[0])
        # The rounds of the times around each piece with which it is read to its end.
        done = [standing.get(number, {}) for number in range(len(self.pieces))]
        told = []
        for number in reversed(range(1, len(self.pieces))):
            if done[number]:
                told.extend(self._entries_behind(number, done))
        return (told, len(done[0]) > 0)

    def _entries_behind(self, number, done):
        """The entries straight behind a piece; where the piece around it may end with it, that is put down."""
        around, k = self.around[number]
        piece, parts = self.pieces[around]
        if piece[0] == "times":
            fewest, most = self.bounds[around]
            _merge(done[around], [rounds[:-1] for rounds in done[number] if rounds[-1] >= fewest])
            again = _next_rounds(done[number], most, piece[3] is None)
            return [(number, around, again)] if again else []
        told = []
        if piece[0] == "row":
            for part in parts[k + 1:]:
                told.append((part, NOT_AGAIN, done[number]))
                if not self.empty[part]:
                    return told
        _merge(done[around], done[number])
        return told

    def first_leaves(self, number):
        """The leaves with which a piece may begin, rising, each with how many times are entered to it."""
        if number not in self.firsts:
            self.firsts[number] = self._found_first_leaves(number)
        return self.firsts[number]

    def _found_first_leaves(self, number):
        """The same, found anew."""
        told = []
        ahead = [(number, 0)]
        while ahead:
            at, entered = ahead.pop()
            piece, parts = self.pieces[at]
            if piece[0] == "sign":
                told.append((at, entered))
            elif piece[0] == "times":
                ahead.append((parts[0], entered + 1))
            else:
                first = parts if piece[0] == "pick" else self._first_parts(parts)
                ahead.extend([(part, entered) for part in first[::-1]])
        return told

    def _first_parts(self, parts):
        """The parts of a row that none but parts that may take nothing stand ahead of."""
        for k, part in enumerate(parts):
            if not self.empty[part]:
                return parts[:k + 1]
        return parts

    def ways_on(self, stand):
        """How runs go on from a stand, and whether it may end.

        Told are the signs that may come, rising, each with a list of pairs: the steps, rising, and the
        stands to which they lead.
        """
        entries, ends = self.entries(None if stand is None else {stand[0]: {stand[1]: True}})
        told = {}
        for part, again, rounds in entries:
            for leaf, entered in self.first_leaves(part):
                ways = [((leaf, again), (leaf, row)) for row in _widened(rounds, entered)]
                told.setdefault(self.sign_of(leaf), []).extend(ways)
        return ({sign: sorted(told[sign]) for sign in sorted(told)}, ends)

    def behind_sign(self, standing, sign):
        """Where runs stand behind one more sign."""
        told = {}
        entries, _ = self.entries(standing)
        for part, _, rounds in entries:
            for leaf, entered in self.first_leaves(part):
                if self.sign_of(leaf) == sign:
                    _merge(told.setdefault(leaf, {}), _widened(rounds, entered))
        return told


def _merge(told, rounds):
    """Put more rounds to those that are told."""
    for row in rounds:
        told[row] = True


def _next_rounds(rounds, most, more_alike):
    """The rounds behind the beginning of the innermost times' next round, where it may have one.

    `more_alike` says that there may be more rounds than are told apart.
    """
    told = {}
    for row in rounds:
        if row[-1] < most:
            grown = (*row[:-1], row[-1] + 1)
            told[grown] = True
        elif more_alike:
            told[row] = True
    return told


def _widened(rounds, entered):
    """The rounds with so many times more, each just entered."""
    if entered == 0:
        return rounds
    return {row + (1,) * entered: True for row in rounds}
