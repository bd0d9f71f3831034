"""Several things drawn at once, and what that saves."""

from math import comb, factorial

from tosstrees.basics import check_count, is_integer_from, less, times
from tosstrees.errors import InvalidNumber
from tosstrees.figures import cost
from tosstrees.means import least_mean
from tosstrees.shares import both, check_shares


def many(shares, k):
    """Return the shares of rows of k things, the first draw counting most."""
    check_shares(shares)
    check_count(k)
    found = shares
    for _ in range(k - 1):
        found = both(found, shares)
    return found


def saved(shares, k):
    """Return k times the least mean, less that of the rows of k things."""
    rows = many(shares, k)
    return less(times((k, 1), least_mean(shares)), least_mean(rows))


def even_mean(n):
    """Return the least mean for n things with the same share."""
    check_count(n)
    return times((n, 1), cost((1, n)))


def shuffle_mean(n):
    """Return the least mean of drawing an order of n things."""
    check_count(n)
    return even_mean(factorial(n))


def lot_mean(n, k):
    """Return the least mean of drawing k of n things at once, without an order."""
    check_count(n)
    if not is_integer_from(k, 0) or k > n:
        raise InvalidNumber(k)
    return even_mean(comb(n, k))
