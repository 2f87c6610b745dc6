"""Forms that papers are told of, forms at the bounds of wide ones, and what the document says of papers."""

from soleway.forms import signs_of
from soleway.formtexts import read_form
from soleway.stands import behind, may_end, steps
from plainly import A, all_stands, counted_forms, small_forms

# Ten rounds of forty leaves: four hundred stands, and eleven lists of them.
_EIGHT = ("pick", (A,) * 8)
FOUR_HUNDRED_STANDS = ("times", ("pick", (_EIGHT,) * 5), 10, 10)
ONE_STAND_MORE = ("row", (FOUR_HUNDRED_STANDS, ("sign", "b")))
# Each of the stands stands alone: with None there is one more list than there are stands.
FOUR_HUNDRED_LISTS = read_form("[ 12..12 11..11 [ a b c ] 3..3 d ]")
ONE_LIST_MORE = read_form("[ 12..12 11..11 [ a b c ] 4..4 d ]")
# A sign eight ahead of the last one: few stands, but each of the last eight signs counts.
FEW_STANDS_MANY_LISTS = read_form("[ 0.. ( a b ) a [ ( a b ) ( a b ) ( a b ) ( a b ) ( a b ) ( a b ) ( a b ) ( a b ) ] ]")
NOT_WIDE = (FOUR_HUNDRED_STANDS, FOUR_HUNDRED_LISTS)
WIDE = (ONE_STAND_MORE, ONE_LIST_MORE, FEW_STANDS_MANY_LISTS, read_form("12..12 12..12 12..12 a"),
        read_form("0.. ( 12..12 12..12 [ a b ] 12..12 12..12 c )"))
NO_LISTS_OF_STANDS = ([0], [True], ["None"], [None, None, 1], [None, ()], [None, ((),)], [None, ((), (), ())],
                      [None, [(), ()]], [None, (None, None)], [None, (None, ())], [None, ((), None)], ["a"], [[]],
                      [(((),),)], [None, ("", ())], [None, ((), "")], [None, False], [None, "a"])


def forms():
    """Small forms of every kind, and forms with counts within counts."""
    return small_forms() + counted_forms()[::2]


def signs_both(form, one, other):
    return [sign for sign in signs_of(form) if steps(form, one, sign) and steps(form, other, sign)]


def bent_stands(stand):
    """Things that are nearly a stand but none, of any form with at most eight parts and no count above twelve."""
    if stand is None:
        return [0, False, "", (), (None,), (None, None), [None]]
    leaf, rounds = stand
    told = [[leaf, rounds], (leaf,), (rounds, leaf, rounds), (leaf, rounds, None), (leaf, [*rounds]), ([*leaf], rounds),
            (leaf, (*rounds, 1)), (leaf, (*rounds, 0)), ((*leaf, 0), rounds), ((*leaf, 8), rounds), leaf, rounds,
            (leaf, None), (None, rounds), (leaf, str(rounds)), ((8, *leaf), rounds), ((-1, *leaf), rounds), "stand", 1,
            ((*leaf, None), rounds), ((*leaf, "0"), rounds), ((*leaf, (0,)), rounds)]
    for at, number in enumerate(leaf):
        told += [((*leaf[:at], other, *leaf[at + 1:]), rounds) for other in (-1, 8, bool(number), None, "0", (0,), [0])
                 if other is not bool(number) or number < 2]
    for at, number in enumerate(rounds):
        told += [(leaf, (*rounds[:at], other, *rounds[at + 1:])) for other in (0, -1, 13, True, False, None, "1", (1,))]
        told.append((leaf, rounds[:at] + rounds[at + 1:]))
    if leaf:
        told.append((leaf[:-1], rounds))
    return told


def are_stands(form, things):
    """Whether things are stands of a form, told apart by how they are written: True is not 1."""
    among = {repr(stand) for stand in all_stands(form)}
    return all(repr(thing) in among for thing in things)


def is_once_paper_plainly(form, paper):
    """What the document says of papers that a form tells places at once, word for word."""
    if not all(type(pair) is tuple and len(pair) == 2 and are_stands(form, pair) for pair in paper):
        return False
    if (None, None) not in paper:
        return False
    for one, other in paper:
        for sign in signs_both(form, one, other):
            for step in steps(form, one, sign):
                for by in steps(form, other, sign):
                    pair = (behind(form, one, step), behind(form, other, by))
                    if step[0] != by[0] or pair not in paper and pair[::-1] not in paper:
                        return False
    return True


def is_sure_paper_plainly(form, paper):
    """The same of papers that a form is sure."""
    if not are_stands(form, paper) or None not in paper:
        return False
    for stand in paper:
        for sign in signs_of(form):
            told = steps(form, stand, sign)
            if len(told) > 1 or not all(behind(form, stand, step) in paper for step in told):
                return False
    return True


def is_single_paper_plainly(form, paper):
    """The same of papers that a form is single."""
    if not all(type(triple) is tuple and len(triple) == 3 and are_stands(form, triple[:2]) for triple in paper):
        return False
    if not all(type(triple[2]) is bool for triple in paper) or (None, None, False) not in paper:
        return False
    for one, other, unlike in paper:
        if unlike and may_end(form, one) and may_end(form, other):
            return False
        for sign in signs_both(form, one, other):
            for step in steps(form, one, sign):
                for by in steps(form, other, sign):
                    triple = (behind(form, one, step), behind(form, other, by), unlike or step != by)
                    if triple not in paper and (triple[1], triple[0], triple[2]) not in paper:
                        return False
    return True


def bent_lists(told):
    """Things that are nearly a tuple of stands, sorted, each once, but none."""
    bent = [list(told), (*told, told) if told else [], None, "", 0, True, (*told, ()), ((),), (1,), ("a",)]
    for at, stand in enumerate(told):
        bent += [told[:at] + (stand,) + told[at:], (None, *told), (*told, None), (*told, *told), stand]
        bent += [told[:at] + (other,) + told[at + 1:] for other in bent_stands(stand) if other not in (None, ())]
    if len(told) > 1:
        bent += [told[::-1], told[1:] + told[:1]]
    return bent


def leads_of(form, members):
    """For each sign by which steps lead on from stands the tuple of all stands to which they lead."""
    told = {}
    for sign in signs_of(form):
        found = {behind(form, stand, step) for stand in members for step in steps(form, stand, sign)}
        if found:
            told[sign] = tuple(sorted(found))
    return told


def is_lists_paper_plainly(one, other, paper, mutual):
    """What the document says of papers of alike, or else of within, word for word."""
    for item in paper:
        if type(item) is not tuple or len(item) != 2:
            return False
        for form, told in zip((one, other), item):
            if type(told) is not tuple or not are_stands(form, told):
                return False
            if told != (None,) and (None in told or list(told) != sorted(set(told))):
                return False
    if ((None,), (None,)) not in paper:
        return False
    for here, beside in paper:
        ends = any(may_end(one, stand) for stand in here)
        ending = any(may_end(other, stand) for stand in beside)
        leads, leading = leads_of(one, here), leads_of(other, beside)
        if ends and not ending or not leads.keys() <= leading.keys():
            return False
        if mutual and (ends != ending or leads.keys() != leading.keys()):
            return False
        if any((leads[sign], leading[sign]) not in paper for sign in leads):
            return False
    return True
