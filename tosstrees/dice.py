"""Dice in the place of coins: which shares they draw, and figures in other bases than two."""

from math import gcd

from tosstrees.basics import common_bottom, is_integer_from, lowest, power, total
from tosstrees.equations import solved
from tosstrees.errors import InvalidDice, InvalidNumber
from tosstrees.figures import check_number
from tosstrees.shares import check_shares

_LEFT = "left"


def is_dice(told):
    """Tell whether a value is dice: an ascending tuple of integers from 2 on, each once."""
    return is_row_of_dice(told) and all(one < other for one, other in zip(told, told[1:]))


def is_row_of_dice(told):
    """Tell whether a value is a tuple of integers from 2 on, ascending or the same."""
    if not isinstance(told, tuple) or not all(is_integer_from(sides, 2) for sides in told):
        return False
    return all(one <= other for one, other in zip(told, told[1:]))


def check_base(m):
    """Raise InvalidNumber if a value is no integer from 2 on."""
    if not is_integer_from(m, 2):
        raise InvalidNumber(m)


def is_bounded(shares, dice):
    """Tell whether some tree that throws these dice, with a greatest depth, has the shares."""
    check_shares(shares)
    if not is_dice(dice):
        raise InvalidDice(dice)
    return has_primes_of(product_of(dice), common_bottom(shares))


def product_of(row):
    """Return the product of some integers."""
    found = 1
    for sides in row:
        found = found * sides
    return found


def has_primes_of(whole, bottom):
    """Tell whether each prime that divides a bottom divides a whole, too."""
    common = gcd(bottom, whole)
    while common > 1:
        bottom = bottom // common
        common = gcd(bottom, whole)
    return bottom == 1


def fewest_dice(shares, dice):
    """Return the shortest row of dice, the first of them, that draws the shares, or None."""
    if not is_bounded(shares, dice):
        return None
    bottom = common_bottom(shares)
    rows = [()]
    while True:
        for row in rows:
            if product_of(row) % bottom == 0:
                return row
        rows = [(*row, kind) for row in rows for kind in dice if len(row) == 0 or row[-1] <= kind]


def row_draw(shares, row):
    """Return the tuple of how many of the rows of sides that dice show are each thing's."""
    check_shares(shares)
    if not is_row_of_dice(row) or product_of(row) % common_bottom(shares) != 0:
        raise InvalidDice(row)
    many = product_of(row)
    return tuple(top * (many // bottom) for top, bottom in shares)


def base_figures(number, m):
    """Return the figures of a number in base m, (ahead, round), both as short as can be."""
    check_number(number)
    check_base(m)
    tops, start = tops_in(number, m)
    signs = tuple(top // number[1] for top in tops)
    return (signs[:start], signs[start:])


def tops_in(number, m):
    """Return the list of what the figures from the k-th on add up to times m to the power k, as
    tops over the number's bottom, and the place from which on they come again and again."""
    top, bottom = number
    places = {}
    while top not in places:
        places[top] = len(places)
        top = top % bottom * m
    return list(places), places[top]


def die_mean(shares, m):
    """Return the mean number of throws of the trees of least mean that throw one die."""
    check_shares(shares)
    check_base(m)
    return total([die_cost(share, m) for share in shares])


def die_cost(number, m):
    """Return the sum of k times the k-th figure by m to the power k."""
    bottom = number[1]
    equations = {}
    # What is left behind the k-th figure, by m to the power k, is the chance that the thing takes
    # more than k throws, and these chances add up to the sum.
    for top in tops_in(number, m)[0]:
        left = top % bottom
        equations[left] = (m, {_LEFT: m * left, left * m % bottom: 1})
    whole, parts = solved(equations, number[0] % bottom)
    return lowest(parts[_LEFT], whole * bottom)


def die_surely(shares, m):
    """Return the least k so that all bottoms divide m to the power k, or None."""
    check_shares(shares)
    check_base(m)
    bottom = common_bottom(shares)
    if not has_primes_of(m, bottom):
        return None
    k = 0
    while power(m, k) % bottom != 0:
        k += 1
    return k
