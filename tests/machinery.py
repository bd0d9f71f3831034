"""Machines that tests are made of, and what they do by plain steps."""

import itertools
import random
from fractions import Fraction

TO, IS = "to", "is"
PRIME = 2 ** 89 - 1

PAIR = (2, (TO, 0), (((IS, 0), (TO, 0)),))
FIRST_THING = (1, (IS, 0), ())
LAST_THING = (3, (IS, 2), ())
THING_BESIDE_STATES = (2, (IS, 1), (((TO, 0), (TO, 0)), ((IS, 0), (TO, 1))))
COIN = (2, (TO, 0), (((IS, 0), (IS, 1)),))
THREE = (3, (TO, 0), (((TO, 1), (TO, 2)), ((IS, 0), (IS, 1)), ((IS, 2), (TO, 0))))
CROOKED = (2, (TO, 2), (((TO, 2), (IS, 0)), ((IS, 1), (TO, 2)), ((TO, 0), (TO, 1))))
STATE_BESIDE = (2, (TO, 1), (((TO, 0), (TO, 0)), ((IS, 1), (IS, 0)), ((IS, 0), (TO, 1))))
STATES_TWICE = (2, (TO, 0), (((TO, 1), (TO, 2)), ((IS, 0), (TO, 0)), ((IS, 0), (TO, 0))))
SIX = (6, (TO, 0), (
    ((TO, 1), (TO, 2)), ((TO, 3), (TO, 4)), ((TO, 5), (TO, 6)), ((TO, 1), (IS, 0)),
    ((IS, 1), (IS, 2)), ((IS, 3), (IS, 4)), ((IS, 5), (TO, 2))))
ENDLESS = (1, (TO, 0), (((TO, 0), (TO, 0)),))
ENDLESS_PAIR = (2, (TO, 1), (((TO, 1), (TO, 1)), ((TO, 0), (TO, 0)), ((IS, 0), (IS, 1))))
PERHAPS_ENDLESS = (2, (TO, 0), (((IS, 0), (TO, 1)), ((TO, 1), (TO, 1))))
LATE_ENDLESS = (3, (TO, 0), (((IS, 0), (TO, 1)), ((IS, 2), (TO, 2)), ((TO, 3), (TO, 3)),
                             ((TO, 2), (TO, 2))))
# Each state leads on to the next one or back to the first; only the last one leads out.
LONG = (2, (TO, 0), tuple(((TO, k + 1), (TO, 0)) for k in range(179)) + (((IS, 0), (IS, 1)),))
LINE = (40, (TO, 0), tuple(((TO, k + 1), (IS, k % 40)) for k in range(179)) + (((IS, 3), (TO, 179)),))

ENDING = (PAIR, FIRST_THING, LAST_THING, THING_BESIDE_STATES, COIN, THREE, CROOKED, STATE_BESIDE,
          STATES_TWICE, SIX)
NOT_ENDING = (ENDLESS, ENDLESS_PAIR, PERHAPS_ENDLESS, LATE_ENDLESS)

NO_TRIPLES = (
    None, True, False, 0, 1, "", "abc", b"abc", 0.5, (), [], {}, object, (1,), (1, (IS, 0)),
    (1, (IS, 0), (), ()), [1, (IS, 0), ()], {1: 1, 2: 2, 3: 3}, ((1, (IS, 0), ()),),
    ((IS, 0), 1, ()), (1, (), (IS, 0)))
NO_COUNTS = tuple((n, (IS, 0), ()) for n in (
    0, -1, -10 ** 30, True, False, None, "1", b"1", 1.0, (), (1,), [1], {}, object))
NO_COUNTS += ((0, (TO, 0), (((TO, 0), (TO, 0)),)), (-1, (TO, 0), (((TO, 0), (TO, 0)),)))
NO_BEGINNINGS = tuple((2, begin, ((((IS, 0), (TO, 0)),))) for begin in (
    None, True, 0, "", TO, IS, "s0", "to0", (), (TO,), (IS,), (0,), (TO, 0, 0), (0, TO), [TO, 0],
    {TO: 0}, (TO, 1), (TO, 2), (TO, -1), (TO, True), (TO, False), (TO, None), (TO, "0"), (TO, 0.0),
    (TO, (0,)), (IS, 2), (IS, 3), (IS, -1), (IS, True), (IS, False), (IS, None), (IS, "1"),
    (IS, 1.0), (IS, [0]), ("To", 0), ("IS", 0), ("t", 0), ("", 0), (b"to", 0), (b"is", 0),
    (None, 0), (0, 0), (True, 0), ([TO], 0), ("tois", 0), ("to ", 0), ((TO, 0), 0), object))
NO_ROWS = tuple((2, (IS, 1), rows) for rows in (
    None, True, 0, "", "ab", b"ab", [], {}, object, [((IS, 0), (IS, 1))], (None,), (0,), ("ab",),
    ((),), (((IS, 0),),), (((IS, 0), (IS, 1), (IS, 0)),), ([(IS, 0), (IS, 1)],), ((IS, 0),),
    ((IS, 0), (IS, 1)), ({(IS, 0): 1, (IS, 1): 1},), (((IS, 0), (IS, 1)), None),
    (((IS, 0), (IS, 1)), ()), (((IS, 0), (IS, 1)), ((TO, 0), [TO, 0])), (((IS, 0), None),),
    ((None, (IS, 0)),), (((IS, 0), (IS, 2)),), (((IS, -1), (IS, 1)),), (((IS, True), (IS, 1)),),
    (((TO, 1), (IS, 1)),), (((IS, 0), (TO, 1)),), (((TO, -1), (IS, 1)),),
    (((TO, 0), (TO, False)),), (((IS, 0), (TO, 0)), ((TO, 2), (IS, 0))),
    (((IS, 0), (TO, 0)), ((TO, 1), ("is", "0"))), (((IS, 0), (TO, 0)), ((TO, 1), ("at", 0))),
    (((IS, 0), (TO, 0.0)),), (((0, IS), (IS, 0)),)))
NO_STATES = ((1, (TO, 0), ()), (1, (IS, 1), ()), (40, (IS, 40), ()))
NOT_MACHINES = NO_TRIPLES + NO_COUNTS + NO_BEGINNINGS + NO_ROWS + NO_STATES


def all_machines(n, states):
    """All machines of so many things and states."""
    places = [(TO, k) for k in range(states)] + [(IS, k) for k in range(n)]
    pairs = list(itertools.product(places, repeat=2))
    return [(n, begin, rows) for begin in places for rows in itertools.product(pairs, repeat=states)]


def some_machine(seed, n, states, share):
    """A machine of n things; of 100 places about so many as the share tells are things."""
    pick = random.Random(seed)
    places = [(IS, pick.randrange(n)) if pick.randrange(100) < share else (TO, pick.randrange(states))
              for _ in range(2 * states)]
    return (n, (TO, pick.randrange(states)), tuple(zip(places[::2], places[1::2])))


def scattered(machine, many, seed):
    """An alike machine with so many copies of each state, in another order."""
    pick = random.Random(seed)
    n, begin, rows = machine
    order = list(range(many * len(rows)))
    pick.shuffle(order)

    def copy_of(place):
        if place[0] == IS:
            return place
        return (TO, order[place[1] + len(rows) * pick.randrange(many)])

    found = {order[k]: (copy_of(rows[k % len(rows)][0]), copy_of(rows[k % len(rows)][1]))
             for k in range(len(order))}
    return (n, copy_of(begin), tuple(found[k] for k in range(len(order))))


def thing_of(machine, row):
    """The thing that a row of tosses leads to with its last one, or None."""
    _, place, rows = machine
    for toss in row:
        if place[0] == IS:
            return None
        place = rows[place[1]][toss]
    return place[1] if place[0] == IS else None


def short_rows(most):
    """All rows of at most so many tosses, the shorter ones first, then as tuples compare."""
    return [row for k in range(most + 1) for row in itertools.product((0, 1), repeat=k)]


def things_of(machine, rows):
    return tuple(thing_of(machine, row) for row in rows)


def met_breadth_first(machine):
    """The states as they are met by rows of tosses, the shorter ones first."""
    _, begin, rows = machine
    found, level = [], [begin]
    while level:
        fresh = []
        for kind, state in level:
            if kind == TO and state not in found:
                found.append(state)
                fresh += rows[state]
        level = fresh
    return found


def never_out(machine):
    """Whether begin leads to a state from which no row of tosses leads to a thing."""
    for state in met_breadth_first(machine):
        below = met_breadth_first((machine[0], (TO, state), machine[2]))
        if not any(kind == IS for k in below for kind, _ in machine[2][k]):
            return True
    return False


def shares_by_fractions(machine):
    """The shares of a machine that ends, by Gauss's way with fractions."""
    n, begin, rows = machine
    if begin[0] == IS:
        return [Fraction(int(k == begin[1])) for k in range(n)]
    states = met_breadth_first(machine)
    table = [[Fraction(entry) for entry in line] for line in lines_of(n, rows, states)]
    cleared(table, len(states), lambda x: 1 / x, lambda x: x)
    return table[0][len(states):]


def shares_by_prime(machine):
    """The shares of a machine that ends and begins with a state, in the field of a prime."""
    n, _, rows = machine
    states = met_breadth_first(machine)
    table = lines_of(n, rows, states)
    cleared(table, len(states), lambda x: pow(x, -1, PRIME), lambda x: x % PRIME)
    return table[0][len(states):]


def lines_of(n, rows, states):
    """A line for each state: twice it, less where it leads, and behind that the things."""
    place_of = {(TO, state): k for k, state in enumerate(states)}
    place_of.update({(IS, k): len(states) + k for k in range(n)})
    table = []
    for k, state in enumerate(states):
        line = [0] * (len(states) + n)
        line[k] = 2
        for place in rows[state]:
            line[place_of[place]] += 1 if place[0] == IS else -1
        table.append(line)
    return table


def cleared(table, many, inverse, kept):
    """Brings the left part of a table to ones on the diagonal, by Gauss and Jordan."""
    for k in reversed(range(many)):
        pivot = next(i for i in reversed(range(k + 1)) if kept(table[i][k]))
        table[k], table[pivot] = table[pivot], table[k]
        factor = inverse(table[k][k])
        table[k] = [kept(entry * factor) for entry in table[k]]
        for i in range(many):
            if i != k and kept(table[i][k]):
                factor = table[i][k]
                table[i] = [kept(a - factor * b) if b else a for a, b in zip(table[i], table[k])]
