"""Trees of tosses, told by how many leaves of each thing they have at each depth."""

from math import lcm

from tosstrees.basics import is_integer_from
from tosstrees.errors import InvalidLeaves
from tosstrees.figures import check_place, figure, figures, sum_of_row
from tosstrees.shares import check_shares


def is_leaves(told):
    """Tell whether a value is the leaves of a tree: (ahead, round), all leaves adding up to 1."""
    if not isinstance(told, tuple) or len(told) != 2:
        return False
    ahead, again = told
    if not is_rows(ahead) or not is_rows(again) or len(again) == 0:
        return False
    if any(len(row) != len(again[0]) for row in ahead + again):
        return False
    return sum_of_row([sum(row) for row in ahead], [sum(row) for row in again]) == (1, 1)


def is_rows(told):
    """Tell whether a value is a tuple of tuples of integers from 0 on."""
    return isinstance(told, tuple) and all(is_row(row) for row in told)


def is_row(told):
    """Tell whether a value is a tuple of integers from 0 on."""
    return isinstance(told, tuple) and all(is_integer_from(many, 0) for many in told)


def check_leaves(leaves):
    """Raise InvalidLeaves if a value is no leaves of a tree."""
    if not is_leaves(leaves):
        raise InvalidLeaves(leaves)


def leaves(shares):
    """Return the leaves of the trees of least mean, ahead and round as short as can be."""
    check_shares(shares)
    parts = [figures(share) for share in shares]
    start = max(len(ahead) for ahead, _ in parts)
    length = 1
    for _, again in parts:
        length = lcm(length, len(again))
    rows = [tuple(figure(share, k) for share in shares) for k in range(start + length)]
    return (tuple(rows[:start]), tuple(rows[start:]))


def drawn(leaves):
    """Return the tuple of the things' shares, some perhaps 0."""
    check_leaves(leaves)
    return tuple(sum_of_row(ahead, again) for ahead, again in columns(leaves))


def columns(leaves):
    """Return the list of the leaves of each thing, two lists, ahead and round."""
    ahead, again = leaves
    return [([row[thing] for row in ahead], [row[thing] for row in again])
            for thing in range(len(again[0]))]


def mean_of(leaves):
    """Return the mean number of tosses of a tree."""
    check_leaves(leaves)
    # The tree takes more than k tosses if it comes to a knot at depth k, and the chances of
    # more than 0, 1, .. tosses add up to the mean.
    ahead, again = knots_of(leaves)
    return sum_of_row(ahead, again)


def is_least(leaves):
    """Tell whether no tree with the same shares has a lesser mean."""
    check_leaves(leaves)
    return all(is_figures_of_one(ahead, again) for ahead, again in columns(leaves))


def is_figures_of_one(ahead, again):
    """Tell whether the leaves of a thing are the figures of its share."""
    return all(many <= 1 for many in ahead + again) and 0 in again


def knots(leaves, k):
    """Return how many places of a tree at a depth are no leaves and have leaves below."""
    check_leaves(leaves)
    check_place(k)
    ahead, again = knots_of(leaves)
    if k < len(ahead):
        return ahead[k]
    return again[(k - len(ahead)) % len(again)]


def knots_of(leaves):
    """Return two lists, ahead and round, of how many knots a tree has at the depths 0 on."""
    ahead, again = leaves
    places = 1
    found = []
    for row in ahead + again:
        found.append(places - sum(row))
        places = 2 * found[-1]
    # A tree has rows ahead, since rows that come again from depth 0 on never add up to 1. So
    # the last knots are those of the last row ahead, and the knots come again as the rows do.
    return found[:len(ahead)], found[len(ahead):]
