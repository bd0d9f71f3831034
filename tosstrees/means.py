"""How many tosses are taken in the mean, at the least and by a machine, and how far it strays."""

from tosstrees.basics import less, lowest, times, total
from tosstrees.equations import solved
from tosstrees.errors import NeverEnds
from tosstrees.figures import cost
from tosstrees.machines import ends, shares_of, states_among, states_met, weights_of
from tosstrees.shares import check_shares

_TOSS = "toss"


def least_mean(shares):
    """Return the mean of the trees of least mean."""
    check_shares(shares)
    return total([cost(share) for share in shares])


def mean(machine):
    """Return the mean number of tosses of a machine."""
    check_ending(machine)
    equations = {}
    for state in states_met(machine):
        equations[("mean", state)] = equation_of_mean(machine, state)
    return solved_at_begin(machine, equations, "mean")


def spread(machine):
    """Return the mean of the square of how many tosses it takes, less the square of the mean."""
    average = mean(machine)
    equations = {}
    # Those of one state stand side by side, so that both are gone before the next state's turn.
    for state in states_met(machine):
        equations[("mean", state)] = equation_of_mean(machine, state)
        equations[("square", state)] = equation_of_square(machine, state)
    return less(solved_at_begin(machine, equations, "square"), times(average, average))


def check_ending(machine):
    """Raise an error if a value is no machine, or if it does not end."""
    if not ends(machine):
        raise NeverEnds(machine)


def equation_of_mean(machine, state):
    """Return the equation of the mean number of tosses from a state on.

    It is that of one toss and half of the means from both places below.
    """
    means = [("mean", below) for below in states_among(machine[2][state])]
    return (2, weights_of([_TOSS, _TOSS, *means]))


def equation_of_square(machine, state):
    """Return the equation of the mean square of how many tosses there are from a state on.

    The square of one more than x is 1, twice x and the square of x.
    """
    means = [("mean", below) for below in states_among(machine[2][state])]
    squares = [("square", below) for below in states_among(machine[2][state])]
    return (2, weights_of([_TOSS, _TOSS, *means, *means, *squares]))


def solved_at_begin(machine, equations, kind):
    """Return what equations tell of the state that a machine begins with, 0 of a thing."""
    unknowns = [(kind, state) for state in states_among((machine[1],))]
    if len(unknowns) == 0:
        return (0, 1)
    bottom, parts = solved(equations, unknowns[0])
    return lowest(parts[_TOSS], bottom)


def over(machine):
    """Return a machine's mean less the least mean of those of its shares that are above 0."""
    drawn = tuple(share for share in shares_of(machine) if share[0] > 0)
    return less(mean(machine), least_mean(drawn))
