"""Integers and fractions, as all other files of the package use them."""

from math import gcd, lcm

from tosstrees.errors import InvalidNumber


def is_integer(told):
    """Tell whether a value is an integer; a bool is none here."""
    return isinstance(told, int) and not isinstance(told, bool)


def is_integer_from(told, least):
    """Tell whether a value is an integer that is not below another one."""
    return is_integer(told) and told >= least


def check_count(told):
    """Raise InvalidNumber if a value is no integer from 1 on."""
    if not is_integer_from(told, 1):
        raise InvalidNumber(told)


def power(base, exponent):
    """Return an integer to the power of an integer from 0 on."""
    found = 1
    for _ in range(exponent):
        found = found * base
    return found


def lowest(top, bottom):
    """Return a top by a bottom above 0 as a fraction in lowest terms."""
    common = gcd(top, bottom)
    return (top // common, bottom // common)


def times(one, other):
    """Return the product of two numbers."""
    return lowest(one[0] * other[0], one[1] * other[1])


def less(one, other):
    """Return a number less another one."""
    return lowest(one[0] * other[1] - other[0] * one[1], one[1] * other[1])


def total(numbers):
    """Return the sum of a list or tuple of numbers."""
    bottom = common_bottom(numbers)
    top = sum(number[0] * (bottom // number[1]) for number in numbers)
    return lowest(top, bottom)


def common_bottom(numbers):
    """Return the least integer above 0 that all bottoms of a list or tuple of numbers divide."""
    bottom = 1
    for number in numbers:
        bottom = lcm(bottom, number[1])
    return bottom
