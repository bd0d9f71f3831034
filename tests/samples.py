"""Shares and trees that tests are made of."""

import itertools
from fractions import Fraction

from tests.wrong import as_pair


def of_weights(weights):
    """The shares of some weights."""
    return tuple(as_pair(Fraction(weight, sum(weights))) for weight in weights)


def weights_of(whole, most):
    """All rows of at most so many integers from 1 on that add up to a whole."""
    cuts = [row for k in range(most) for row in itertools.combinations(range(1, whole), k)]
    return [tuple(b - a for a, b in zip((0, *row), (*row, whole))) for row in cuts]


ONE = ((1, 1),)
HALVES = of_weights((1, 1))
THIRDS = of_weights((1, 1, 1))
SIXTHS = of_weights((1,) * 6)
SIXTIETHS = of_weights((1, 7, 12, 15, 5, 20))
FEW_SHARES = sorted({of_weights(row) for whole in range(1, 10) for row in weights_of(whole, 6)})
LARGE_SHARES = [
    of_weights(row) for whole in (11, 13, 24, 29, 36, 37, 47, 48, 53, 58, 59, 60)
    for row in ((1, whole - 1), (whole // 2, whole - whole // 2), (whole - 3, 1, 2),
                (1, 1, 1, 1, 1, whole - 5), (1, 2, 3, 1, whole - 7),
                (*range(whole // 6 - 1, whole // 6 + 4), whole - 5 * (whole // 6) - 5))
    if min(row) > 0]

LEAST = (
    (ONE, (((1,),), ((0,),))),
    (HALVES, (((0, 0), (1, 1)), ((0, 0),))),
    (((1, 4), (3, 4)), (((0, 0), (0, 1), (1, 1)), ((0, 0),))),
    (THIRDS, (((0, 0, 0),), ((0, 0, 0), (1, 1, 1)))),
    (((1, 3), (2, 3)), (((0, 0),), ((0, 1), (1, 0)))),
    (((2, 5), (3, 5)), (((0, 0),), ((0, 1), (1, 0), (1, 0), (0, 1)))),
    (((1, 6), (5, 6)), (((0, 0), (0, 1)), ((0, 1), (1, 0)))),
    (SIXTHS, (((0,) * 6, (0,) * 6), ((0,) * 6, (1,) * 6))),
    (((1, 2), (1, 3), (1, 6)), (((0, 0, 0), (1, 0, 0)), ((0, 1, 0), (0, 0, 1)))),
    (((1, 7), (2, 7), (4, 7)), (((0, 0, 0),), ((0, 0, 1), (0, 1, 0), (1, 0, 0)))),
    (((1, 60), (59, 60)),
     (((0, 0), (0, 1), (0, 1)), ((0, 1), (0, 1), (0, 1), (1, 0)))))


def later_round(told):
    """The same leaves, round beginning one row later."""
    ahead, again = told
    return (ahead + again[:1], again[1:] + again[:1])


def double_round(told):
    """The same leaves, round holding itself twice."""
    return (told[0], told[1] * 2)


def deeper(told, depth, thing):
    """The tree in which a leaf at a depth, in ahead or in round but not at its end, is a knot."""
    ahead, again = told
    rows = [list(row) for row in ahead + again]
    rows[depth][thing] -= 1
    rows[depth + 1][thing] += 2
    rows = [tuple(row) for row in rows]
    return (tuple(rows[:len(ahead)]), tuple(rows[len(ahead):]))


def all_deeper(told):
    """All trees in which one leaf, or one in each round, is a knot."""
    ahead, again = told
    rows = ahead + again
    places = [depth for depth in range(len(rows) - 1) if depth != len(ahead) - 1]
    return [deeper(told, depth, thing) for depth in places
            for thing, many in enumerate(rows[depth]) if many > 0]


def finite_trees(n, depth):
    """The leaves of all trees for n things that are no deeper than so, round a row of none."""
    return [(rows, ((0,) * n,)) for rows in finite_rows(n, depth, 1)]


def finite_rows(n, depth, places):
    if places == 0:
        return [()]
    found = []
    for row in itertools.product(range(places + 1), repeat=n):
        knots = places - sum(row)
        if knots >= 0 and (depth > 0 or knots == 0):
            found += [(row, *rows) for rows in finite_rows(n, depth - 1, 2 * knots)]
    return found


FINITE = finite_trees(1, 3) + finite_trees(2, 2) + finite_trees(3, 1)
OTHER_TREES = (
    (((0,),), ((1,),)),
    (((0, 0), (0, 1)), ((1, 0),)),
    (((0, 0), (0, 0), (2, 2)), ((0, 0),)),
    (((0, 0), (1, 0)), ((0, 1),)),
    (((0, 0, 0), (1, 1, 0)), ((0, 0, 0),)),
    (((0, 1),), ((0, 0),)),
    (((0, 0),), ((0, 0), (0, 3))),
    (((0, 0, 0), (0, 0, 0)), ((1, 0, 0), (0, 1, 3))),
    (((0,), (0,), (0,), (8,)), ((0,), (0,))),
    (((0,),) + ((1,),) * 118 + ((2,),), ((0,),)),
    (((0, 0),) * 6 + ((30, 34),), ((0, 0),)),
    (((0, 0),) * 100 + ((2 ** 99 + 1, 2 ** 99 - 1),), ((0, 0),)))
