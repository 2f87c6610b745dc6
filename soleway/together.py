"""Two machines run at once."""


def together(one, other, as_both):
    """The machine of the rows that both machines take, or else of those that one of them takes.

    Its rooms are pairs of rooms; where one of the two may have come to no room, it has None there. Of
    those that both take no end may be come to from some of the rooms.
    """
    pairs = [(0, 0)]
    numbers = {(0, 0): 0}
    rooms = []
    while len(rooms) < len(pairs):
        here, beside = pairs[len(rooms)]
        ends, leads = _room(one, here)
        ending, leading = _room(other, beside)
        signs = [sign for sign in leads if sign in leading] if as_both else sorted(set(list(leads) + list(leading)))
        steps = []
        for sign in signs:
            pair = (leads.get(sign), leading.get(sign))
            if pair not in numbers:
                numbers[pair] = len(pairs)
                pairs.append(pair)
            steps.append((sign, numbers[pair]))
        rooms.append(((ends and ending) if as_both else (ends or ending), tuple(steps)))
    return tuple(rooms)


def _room(machine, number):
    """Whether a room ends, and a dict of its steps; None is the number of no room."""
    if number is None:
        return (False, {})
    ends, steps = machine[number]
    return (ends, dict(steps))


def living(machine):
    """The machine without the steps to rooms from which no end is come to; None where room 0 is one of these."""
    ahead_of = [[] for _ in machine]
    for number, (_, steps) in enumerate(machine):
        for _, behind in steps:
            ahead_of[behind].append(number)
    ahead = [number for number, (ends, _) in enumerate(machine) if ends]
    alive = {number: True for number in ahead}
    while ahead:
        for number in ahead_of[ahead.pop()]:
            if number not in alive:
                alive[number] = True
                ahead.append(number)
    if 0 not in alive:
        return None
    return tuple([(ends, tuple([step for step in steps if step[1] in alive])) for ends, steps in machine])
