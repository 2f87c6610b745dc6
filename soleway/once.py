"""Whether a form tells places at once: behind each beginning and sign the stands have one leaf alone."""

from soleway.reached import Reached


def once(form):
    """("once", paper), or ("two", the least beginning with two leaves, one leaf, the other)."""
    reached = Reached(form)
    for at in range(1, len(reached.leads)):
        leaves = sorted({reached.stands[number][0] for number in reached.list_at(at)})
        if len(leaves) > 1:
            places = [reached.walk.place_of(leaf) for leaf in leaves[:2]]
            return ("two", reached.search.row_to(at), places[0], places[1])
    return ("once", _paper(reached))


def _paper(reached):
    """The pairs of stands that stand behind one row, told once, not turned about."""
    pairs = [(0, 0)]
    seen = {(0, 0): True}
    at = 0
    while at < len(pairs):
        for _, _, pair in _pairs_behind(reached, pairs[at]):
            if pair not in seen:
                seen[pair] = True
                pairs.append(pair)
        at += 1
    told = [reached.told(number) for number in range(len(reached.stands))]
    return [(told[one], told[other]) for one, other in pairs]


def _pairs_behind(reached, pair):
    """The leaves of steps by one sign from two stands, and the pair of stands behind them, the lower number first."""
    told = []
    for ways in reached.both_ways(pair[0], pair[1]).values():
        for (step, one), (beside, other) in ways:
            told.append((step[0], beside[0], (min(one, other), max(one, other))))
    return told


def is_once_paper(form, thing):
    """Whether a list is right as a paper that a form tells places at once."""
    reached = Reached(form)
    if not isinstance(thing, list) or not all([_is_pair(reached.walk, item) for item in thing]):
        return False
    pairs = {}
    for item in thing:
        one, other = sorted([reached.taken(stand) for stand in item])
        pairs[(one, other)] = True
    return (0, 0) in pairs and all(_is_closed(reached, pair, pairs) for pair in pairs)


def _is_pair(walk, thing):
    """Whether a thing is a pair of stands."""
    return isinstance(thing, tuple) and len(thing) == 2 and walk.is_stand(thing[0]) and walk.is_stand(thing[1])


def _is_closed(reached, pair, pairs):
    """Whether steps by one sign from a pair lead to one leaf and to pairs that are there."""
    return all(leaf == other and led_to in pairs for leaf, other, led_to in _pairs_behind(reached, pair))
