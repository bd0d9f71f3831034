"""Machines of finitely many states: what they draw, and which of them draw alike."""

from tosstrees.basics import is_integer_from, lowest
from tosstrees.equations import solved
from tosstrees.errors import InvalidMachine, InvalidPair, InvalidRow, NeverEnds, NotDrawn
from tosstrees.figures import check_place, is_signs
from tosstrees.shares import is_thing
from tosstrees.trees import knots_of, leaves


def is_machine(told):
    """Tell whether a value is a machine: (n, begin, rows)."""
    if not isinstance(told, tuple) or len(told) != 3:
        return False
    n, begin, rows = told
    if not is_integer_from(n, 1) or not isinstance(rows, tuple):
        return False
    return is_place(begin, n, len(rows)) and all(is_pair(row, n, len(rows)) for row in rows)


def is_pair(told, n, states):
    """Tell whether a value is a pair of places of a machine with so many things and states."""
    if not isinstance(told, tuple) or len(told) != 2:
        return False
    return is_place(told[0], n, states) and is_place(told[1], n, states)


def is_place(told, n, states):
    """Tell whether a value is a place of a machine with so many things and states."""
    if not isinstance(told, tuple) or len(told) != 2:
        return False
    if told[0] == "to":
        return is_thing(told[1], states)
    return told[0] == "is" and is_thing(told[1], n)


def check_machine(machine):
    """Raise InvalidMachine if a value is no machine."""
    if not is_machine(machine):
        raise InvalidMachine(machine)


def states_among(places):
    """Return the list of the states among some places."""
    return [place[1] for place in places if place[0] == "to"]


def states_met(machine):
    """Return the list of the states that begin leads to, met breadth first, 0 ahead of 1."""
    _, begin, rows = machine
    met = states_among((begin,))
    seen = set(met)
    at = 0
    while at < len(met):
        below = states_among(rows[met[at]])
        for state in below:
            if state not in seen:
                seen.add(state)
                met.append(state)
        at += 1
    return met


def ends(machine):
    """Tell whether from each state that begin leads to some row of tosses leads to a thing."""
    check_machine(machine)
    left = states_met(machine)
    before = []
    while left != before:
        before = left
        left = not_out(machine[2], before)
    return left == []


def not_out(rows, states):
    """Return the list of those of some states that both tosses lead to some of these."""
    inside = {("to", state): True for state in states}
    return [state for state in states if all(place in inside for place in rows[state])]


def shares_of(machine):
    """Return the tuple of the numbers with which the things are drawn."""
    if not ends(machine):
        raise NeverEnds(machine)
    n, begin, rows = machine
    equations = {("to", state): (2, weights_of(rows[state])) for state in states_met(machine)}
    equations["begin"] = (1, {begin: 1})
    bottom, parts = solved(equations, "begin")
    return tuple(lowest(parts.get(("is", thing), 0), bottom) for thing in range(n))


def weights_of(places):
    """Return a dict of how often each place is among some places."""
    found = {}
    for place in places:
        found[place] = found.get(place, 0) + 1
    return found


def walk(machine, tosses):
    """Return (things, place): the things drawn one behind the other, and the place at the end."""
    check_machine(machine)
    if not isinstance(tosses, (list, tuple)) or not is_signs(tuple(tosses)):
        raise InvalidRow(tosses)
    _, begin, rows = machine
    if begin[0] == "is" and len(tosses) > 0:
        raise NotDrawn(machine)
    things = []
    place = begin
    for toss in tosses:
        place = rows[place[1]][toss]
        if place[0] == "is":
            things.append(place[1])
            place = begin
    return (tuple(things), place)


def folded(machine):
    """Return the folded machine that is alike."""
    check_machine(machine)
    n, begin, rows = machine
    states = states_met(machine)
    classes = classes_of(rows, states)
    found = {}
    for state in states:
        found[classes[state]] = tuple(renumbered(place, classes) for place in rows[state])
    return (n, renumbered(begin, classes), tuple(found.values()))


def classes_of(rows, states):
    """Return a dict of the numbers of states, the same for those that are alike, from 0 on in
    the order in which the states are told."""
    classes = {state: 0 for state in states}
    before = 0
    while True:
        numbers = {}
        finer = {}
        for state in states:
            kind = (classes[state], *[renumbered(place, classes) for place in rows[state]])
            finer[state] = numbers.setdefault(kind, len(numbers))
        if len(numbers) == before:
            return classes
        classes = finer
        before = len(numbers)


def renumbered(place, numbers):
    """Return a place with the new number of its state."""
    if place[0] == "is":
        return place
    return ("to", numbers[place[1]])


def alike(one, other):
    """Return None if two machines are alike, otherwise the first row of tosses that tells them
    from each other, of the shortest ones."""
    check_machine(one)
    check_machine(other)
    if one[0] != other[0]:
        raise InvalidPair((one[0], other[0]))
    begin = (one[1], other[1])
    ways = {begin: (begin, ())}
    level = [begin]
    while level:
        further = []
        for pair in level:
            if is_unlike(pair):
                return way_to(pair, ways)
            for toss, fresh in enumerate(a_toss_on(one, other, pair)):
                if fresh not in ways:
                    ways[fresh] = (pair, (toss,))
                    further.append(fresh)
        level = further
    return None


def is_unlike(pair):
    """Tell whether one of two places is a thing and the other one not, or another thing."""
    return pair[0] != pair[1] and (pair[0][0] == "is" or pair[1][0] == "is")


def a_toss_on(one, other, pair):
    """Return the list of the pairs of places to which a toss leads two machines, none from
    things."""
    if pair[0][0] == "is":
        return []
    return list(zip(one[2][pair[0][1]], other[2][pair[1][1]]))


def way_to(pair, ways):
    """Return the row of tosses by which a pair of places was met."""
    row = ()
    while ways[pair][1]:
        pair, toss = ways[pair]
        row = toss + row
    return row


def machine_for(shares):
    """Return a machine of the trees of least mean, with a state for each knot up to the depth
    at which the knots come again."""
    told = leaves(shares)
    ahead, again = knots_of(told)
    starts = starts_of(ahead, again)
    places = []
    for depth, row in enumerate(told[0] + told[1]):
        many = (ahead + again)[depth]
        places = places + [("is", thing) for thing, leaf in enumerate(row) if leaf == 1]
        places = places + [("to", starts[depth] + at) for at in range(many)]
    rows = tuple(zip(places[1::2], places[2::2]))
    return (len(shares), places[0], rows)


def starts_of(ahead, again):
    """Return the list of the first state of each depth, the last depth having those of another.

    The rests of the things at a depth tell all rows behind it and are told by them. So the first
    depth with the rests of one ahead is the last one of round, and that one is the last of ahead.
    """
    starts = [0]
    for many in (ahead + again)[:-1]:
        starts.append(starts[-1] + many)
    starts[-1] = starts[len(ahead) - 1]
    return starts


def leaves_of(machine, k):
    """Return the tuple of how many leaves of each thing there are at a depth."""
    check_machine(machine)
    check_place(k)
    n, begin, rows = machine
    counts = {begin: 1}
    for _ in range(k):
        counts = counts_below(rows, counts)
    return tuple(counts.get(("is", thing), 0) for thing in range(n))


def counts_below(rows, counts):
    """Return a dict of how many rows of tosses lead to each place, one toss longer than those
    that are told likewise."""
    found = {}
    for place, many in counts.items():
        if place[0] == "to":
            for below in rows[place[1]]:
                found[below] = found.get(below, 0) + many
    return found
