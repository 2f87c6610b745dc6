"""Whether a form is sure, rounds and all, and whether it is single: each row read in one way."""

from soleway.reached import Reached
from soleway.runs import ending_runs, reading_of, told_run
from soleway.searches import Search


def sure(form):
    """("sure", paper), or ("unsure", the least beginning with two unlike runs, one run, another)."""
    reached = Reached(form)
    search = Search(0)
    at = 0
    while at < len(search.groups):
        stand = search.groups[at][0]
        for sign, ways in reached.ways_from(stand).items():
            if len(ways) > 1:
                return _unsure(reached, (*search.row_to(at), sign))
            search.put(at, sign, [ways[0][1]])
        at += 1
    return ("sure", [reached.told(number) for number in search.all_things()])


def _unsure(reached, row):
    """What is told of the least row with two runs: each sign of it but the last has one step."""
    run = []
    number = 0
    for sign in row[:-1]:
        step, number = reached.ways_from(number)[sign][0]
        run.append(step)
    told = [told_run(reached.walk, [*run, step]) for step, _ in reached.ways_from(number)[row[-1]]]
    return ("unsure", row, told[0], told[1])


def is_sure_paper(form, thing):
    """Whether a list is right as a paper that a form is sure."""
    reached = Reached(form)
    if not isinstance(thing, list) or not all(reached.walk.is_stand(item) for item in thing):
        return False
    numbers = {reached.taken(stand): True for stand in thing}
    if 0 not in numbers:
        return False
    for number in numbers:
        for ways in reached.ways_from(number).values():
            if len(ways) > 1 or ways[0][1] not in numbers:
                return False
    return True


def single(form):
    """("single", paper), or ("double", the least row with two readings, one reading, another)."""
    reached = Reached(form)
    triples = Triples(reached)
    search = Search((0, 0, False))
    at = 0
    while at < len(search.groups):
        for sign, led_to in triples.led_to_by_all(search.groups[at]):
            fresh = search.put(at, sign, led_to)
            if any(_is_double(reached, triple) for triple in fresh):
                return _double(reached, (*search.row_to(at), sign))
        at += 1
    told = [reached.told(number) for number in range(len(reached.stands))]
    return ("single", [(told[one], told[other], unlike) for one, other, unlike in search.all_things()])


class Triples:
    """The triples to which triples lead, the stand with the lower number first in each.

    Two stands with unlike runs may have far more pairs of steps than there are pairs of stands. So the
    steps of the one are gone through first, and what was told of a stand behind one of these and the
    other stand, which still has its step to go, is not told again.
    """

    def __init__(self, reached):
        self.reached = reached
        self.halves = {}

    def led_to(self, triple):
        """The signs that may come behind a triple, each with those triples it leads to that were not told yet."""
        one, other, unlike = triple
        if unlike:
            return self._unlike(one, other)
        told = {}
        for sign, pairs in self.reached.both_ways(one, other).items():
            told[sign] = [_triple(behind, beside, step != by) for (step, behind), (by, beside) in pairs]
        return told

    def led_to_by_all(self, triples):
        """The same of several triples, in pairs, signs rising."""
        told = {}
        for triple in triples:
            for sign, led_to in self.led_to(triple).items():
                told.setdefault(sign, []).extend(led_to)
        return [(sign, told[sign]) for sign in sorted(told)]

    def _unlike(self, one, other):
        """The same of two stands with unlike runs."""
        told = {}
        others = self.reached.ways_from(other)
        for sign, ways in self.reached.ways_from(one).items():
            told[sign] = []
            for _, behind in ways:
                # The sign is that of the leaf behind the step.
                half = (behind, other)
                if half not in self.halves:
                    self.halves[half] = True
                    told[sign].extend([_triple(behind, beside, True) for _, beside in others.get(sign, [])])
        return told


def _triple(one, other, unlike):
    """A triple with the lower number first: turned about is as good."""
    return (min(one, other), max(one, other), unlike)


def _is_double(reached, triple):
    """Whether two unlike runs stand so that both may end."""
    one, other, unlike = triple
    return unlike and reached.ends_at(one) and reached.ends_at(other)


def _double(reached, row):
    """What is told of the least row with two readings."""
    told = [reading_of(reached.walk, run) for run in ending_runs(reached, row, 2)]
    return ("double", row, told[0], told[1])


def is_single_paper(form, thing):
    """Whether a list is right as a paper that a form is single."""
    reached = Reached(form)
    if not isinstance(thing, list) or not all(_is_triple(reached.walk, item) for item in thing):
        return False
    given = {}
    for stand, beside, unlike in thing:
        given[_triple(reached.taken(stand), reached.taken(beside), unlike)] = True
    if (0, 0, False) not in given or any(_is_double(reached, triple) for triple in given):
        return False
    triples = Triples(reached)
    for triple in given:
        if not all(led_to in given for told in triples.led_to(triple).values() for led_to in told):
            return False
    return True


def _is_triple(walk, thing):
    """Whether a thing is two stands and a truth."""
    if not isinstance(thing, tuple) or len(thing) != 3 or not isinstance(thing[2], bool):
        return False
    return walk.is_stand(thing[0]) and walk.is_stand(thing[1])
