"""Numbers and shares: what is one, and shares made of others."""

from tosstrees.basics import is_integer, is_integer_from, lowest, times, total
from tosstrees.errors import InvalidNumber, InvalidShares, InvalidThing


def is_number(told):
    """Tell whether a value is a fraction (top, bottom) in lowest terms, its bottom above 0."""
    if not isinstance(told, tuple) or len(told) != 2:
        return False
    top, bottom = told
    return is_integer(top) and is_integer_from(bottom, 1) and lowest(top, bottom) == told


def is_shares(told):
    """Tell whether a value is a tuple of numbers above 0 that add up to 1."""
    if not isinstance(told, tuple):
        return False
    return all(is_number(share) and share[0] > 0 for share in told) and total(told) == (1, 1)


def check_shares(told):
    """Raise InvalidShares if a value is none."""
    if not is_shares(told):
        raise InvalidShares(told)


def shares(weights):
    """Return the shares of a list or tuple of weights, integers from 1 on."""
    if not is_weights(weights):
        raise InvalidNumber(weights)
    whole = sum(weights)
    return tuple(lowest(weight, whole) for weight in weights)


def is_weights(told):
    """Tell whether a value is a list or tuple of integers from 1 on, one or more."""
    if not isinstance(told, (list, tuple)) or len(told) == 0:
        return False
    return all(is_integer_from(weight, 1) for weight in told)


def put_together(shares, things):
    """Return the shares in which some things are one, standing where the first of them stood."""
    check_shares(shares)
    if not is_things(things, len(shares)):
        raise InvalidThing(things)
    gone = set(things)
    found = []
    for thing, share in enumerate(shares):
        if thing == things[0]:
            found.append(total([shares[k] for k in things]))
        elif thing not in gone:
            found.append(share)
    return tuple(found)


def is_things(told, n):
    """Tell whether a value is an ascending tuple of some of n things, one or more, each once."""
    if not isinstance(told, tuple) or len(told) == 0:
        return False
    if not all(is_thing(thing, n) for thing in told):
        return False
    return all(one < other for one, other in zip(told, told[1:]))


def is_thing(told, n):
    """Tell whether a value is one of n things."""
    return is_integer_from(told, 0) and told < n


def parted(shares, thing, parts):
    """Return the shares in which a thing is replaced by things with its share times the parts."""
    check_shares(shares)
    check_shares(parts)
    if not is_thing(thing, len(shares)):
        raise InvalidThing(thing)
    pieces = [times(shares[thing], part) for part in parts]
    return (*shares[:thing], *pieces, *shares[thing + 1:])


def both(one, other):
    """Return the shares of pairs of things, drawn each by itself, the first one counting most."""
    check_shares(one)
    check_shares(other)
    return tuple(times(mine, yours) for mine in one for yours in other)
