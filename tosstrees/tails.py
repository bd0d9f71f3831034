"""The chances of many tosses, at the least and by a machine."""

from tosstrees.basics import lowest, total
from tosstrees.errors import InvalidNumber
from tosstrees.figures import check_place, rest
from tosstrees.machines import check_machine, counts_below
from tosstrees.shares import check_shares, is_number


def least_tail(shares, k):
    """Return the least chance, over all trees with these shares, of more than k tosses."""
    check_shares(shares)
    check_place(k)
    # The trees of least mean have as many knots at depth k as the rests there add up to.
    knots, _ = total([rest(share, k) for share in shares])
    return lowest(knots, 1 << k)


def tail(machine, k):
    """Return the chance that a machine takes more than k tosses."""
    check_machine(machine)
    check_place(k)
    _, begin, rows = machine
    counts = {begin: 1}
    for _ in range(k):
        counts = counts_below(rows, counts)
    return lowest(sum(many for place, many in counts.items() if place[0] == "to"), 1 << k)


def surely(shares):
    """Return the least k so that some tree never takes more than k tosses, or None."""
    check_shares(shares)
    depths = [bottom.bit_length() - 1 for _, bottom in shares]
    if any(bottom != 1 << depth for (_, bottom), depth in zip(shares, depths)):
        return None
    return max(depths)


def within(shares, far):
    """Return the least k so that the least chance of more than k tosses is at most a number."""
    check_shares(shares)
    if not is_number(far) or far[0] <= 0:
        raise InvalidNumber(far)
    k = 0
    while is_more(least_tail(shares, k), far):
        k += 1
    return k


def is_more(one, other):
    """Tell whether a number is more than another one."""
    return one[0] * other[1] > other[0] * one[1]
