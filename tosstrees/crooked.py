"""Fair tosses out of throws of a crooked coin."""

from math import comb

from tosstrees.basics import check_count, lowest, power
from tosstrees.errors import InvalidNumber, InvalidReader, InvalidRow
from tosstrees.figures import is_signs
from tosstrees.shares import is_number


def is_reader(n, told):
    """Tell whether a value is a reader of n throws: an output for each row of them."""
    check_count(n)
    return isinstance(told, tuple) and len(told) == 1 << n and all(is_signs(output) for output in told)


def is_fair(n, told):
    """Tell whether a reader of n throws is fair, whatever the coin's share."""
    if not is_reader(n, told):
        raise InvalidReader(told)
    counts = {}
    for number, output in enumerate(told):
        kind = (sum(signs_of(number, n)), output)
        counts[kind] = counts.get(kind, 0) + 1
    by_length = {}
    for (ones, output), many in counts.items():
        by_length.setdefault((ones, len(output)), []).append(many)
    return all(is_even(length, found) for (_, length), found in by_length.items())


def is_even(length, counts):
    """Tell whether all outputs of a length are there, and each as often."""
    return len(counts) == 1 << length and min(counts) == max(counts)


def signs_of(number, many):
    """Return so many figures of an integer in base two, the greatest first."""
    return tuple((number >> at) & 1 for at in reversed(range(many)))


def best(n):
    """Return the best reader of n throws."""
    check_count(n)
    return tuple(put_out(signs_of(number, n)) for number in range(1 << n))


def put_out(row):
    """Return what the best reader of so many throws puts out for a row."""
    if not is_signs(row) or len(row) == 0:
        raise InvalidRow(row)
    place = place_of(row)
    stretches = stretches_of(comb(len(row), sum(row)))
    while place >= 1 << stretches[0]:
        place -= 1 << stretches.pop(0)
    return signs_of(place, stretches[0])


def place_of(row):
    """Return the place of a row, from 0 on, among those of as many throws and ones."""
    place = 0
    ones = sum(row)
    for at, sign in enumerate(row):
        if sign == 1:
            # These are the rows that are the same up to here and have a 0 here.
            place += comb(len(row) - at - 1, ones)
            ones -= 1
    return place


def stretches_of(many):
    """Return the list of the exponents of the powers of 2 that make up an integer, falling."""
    return [at for at in reversed(range(many.bit_length())) if (many >> at) & 1]


def most(n):
    """Return the tuple of how many tosses the best reader's outputs have, for each number of ones."""
    check_count(n)
    return tuple(sum(at * (1 << at) for at in stretches_of(comb(n, ones))) for ones in range(n + 1))


def mean_out(n, share):
    """Return how many tosses the best reader puts out in the mean for a coin with a share."""
    check_count(n)
    if not is_number(share) or not 0 < share[0] < share[1]:
        raise InvalidNumber(share)
    top, bottom = share
    found = 0
    for ones, many in enumerate(most(n)):
        found += many * power(top, ones) * power(bottom - top, n - ones)
    return lowest(found, power(bottom, n))
