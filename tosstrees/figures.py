"""Figures of numbers from 0 to 1 in base two, what they cost, and what is left behind them."""

from tosstrees.basics import is_integer_from, lowest
from tosstrees.errors import InvalidFigures, InvalidNumber
from tosstrees.shares import is_number


def figures(number):
    """Return the figures of a number, (ahead, round), both as short as can be."""
    check_number(number)
    bottom = number[1]
    ahead, again = tails_of(number)
    return (tuple(top // bottom for top in ahead), tuple(top // bottom for top in again))


def check_number(number):
    """Raise InvalidNumber if a value is no number from 0 to 1."""
    if not is_number(number) or not 0 <= number[0] <= number[1]:
        raise InvalidNumber(number)


def check_place(k):
    """Raise InvalidNumber if a value is no integer from 0 on."""
    if not is_integer_from(k, 0):
        raise InvalidNumber(k)


def tails_of(number):
    """Return two lists, ahead and round, of what the figures from the k-th on add up to,
    times 2 to the power k, as tops over the number's bottom."""
    top, bottom = number
    tops = []
    places = {}
    # The figures from one place on tell such a top and are told by it, so the first one
    # that comes again ends the shortest round, behind the shortest ahead.
    while top not in places:
        places[top] = len(tops)
        tops.append(top)
        top = top % bottom * 2
    start = places[top]
    return tops[:start], tops[start:]


def number(told):
    """Return the number of figures, as short as can be or not, round perhaps all 1."""
    if not is_figures(told):
        raise InvalidFigures(told)
    found = sum_of_row(told[0], told[1])
    if found[0] > found[1]:
        raise InvalidFigures(told)
    return found


def is_figures(told):
    """Tell whether a value is a pair of tuples of 0 and 1, the second one of one or more."""
    if not isinstance(told, tuple) or len(told) != 2:
        return False
    return is_signs(told[0]) and is_signs(told[1]) and len(told[1]) > 0


def is_signs(told):
    """Tell whether a value is a tuple of 0 and 1, perhaps of none."""
    return isinstance(told, tuple) and all(is_integer_from(sign, 0) and sign <= 1 for sign in told)


def sum_of_row(ahead, again):
    """Return the sum of the k-th integer by 2 to the power k, those of `again` coming for ever."""
    repeats = (1 << len(again)) - 1
    top = in_base_two(ahead) * repeats + in_base_two(again)
    return lowest(2 * top, repeats << len(ahead))


def in_base_two(row):
    """Return the integer of a row of integers, each counting twice as much as the next one."""
    found = 0
    for part in row:
        found = 2 * found + part
    return found


def figure(number, k):
    """Return the k-th figure of a number."""
    check_number(number)
    check_place(k)
    return (number[0] << k) // number[1] % 2


def cost(number):
    """Return the sum of k times the k-th figure by 2 to the power k."""
    check_number(number)
    top, bottom = number
    ahead, again = tails_of(number)
    # A figure at k counts k times: once in what is left from each of the places 1 to k on.
    found = sum_of_row(ahead, again)
    return lowest(found[0] - top * found[1], bottom * found[1])


def rest(number, k):
    """Return the number times 2 to the power k, less the greatest integer that is not above it."""
    check_number(number)
    check_place(k)
    return lowest((number[0] << k) % number[1], number[1])
