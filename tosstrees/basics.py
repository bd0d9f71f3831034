"""Integers and fractions, as all other files of the package use them."""

from math import gcd, lcm


def is_integer(told):
    """Tell whether a value is an integer; a bool is none here."""
    return isinstance(told, int) and not isinstance(told, bool)


def is_integer_from(told, least):
    """Tell whether a value is an integer that is not below another one."""
    return is_integer(told) and told >= least


def lowest(top, bottom):
    """Return a top by a bottom above 0 as a fraction in lowest terms."""
    common = gcd(top, bottom)
    return (top // common, bottom // common)


def times(one, other):
    """Return the product of two numbers."""
    return lowest(one[0] * other[0], one[1] * other[1])


def total(numbers):
    """Return the sum of a list or tuple of numbers."""
    bottom = 1
    for number in numbers:
        bottom = lcm(bottom, number[1])
    top = sum(number[0] * (bottom // number[1]) for number in numbers)
    return lowest(top, bottom)
