"""Long division, and sums of rows that come again and again, by fractions."""

from fractions import Fraction


def division(told, many):
    """The first figures of a number from 0 to 1, by long division."""
    whole, left = divmod(told[0], told[1])
    found = [whole]
    for _ in range(many - 1):
        sign, left = divmod(2 * left, told[1])
        found.append(sign)
    return found


def figures_by_division(told, m=2):
    """The figures of a number from 0 to 1, by long division up to what is left once more."""
    signs, lefts = [], []
    sign, left = divmod(told[0], told[1])
    while left not in lefts:
        signs.append(sign)
        lefts.append(left)
        sign, left = divmod(m * left, told[1])
    signs.append(sign)
    start = lefts.index(left) + 1
    return signs[:start], signs[start:]


def value_of(ahead, again, m=2):
    """The number of figures, by the sum of a geometric row."""
    x = Fraction(1, m ** len(again))
    first = weighed(ahead, [1] * len(ahead), 0, m)
    return first + weighed(again, [1] * len(again), len(ahead), m) / (1 - x)


def cost_of(ahead, again, m=2):
    """The cost, by the sums of the rows 1, x, x * x .. and of 0, x, 2 * x * x .."""
    x = Fraction(1, m ** len(again))
    places = range(len(ahead) + len(again))
    first = weighed(ahead, places[:len(ahead)], 0, m)
    once = weighed(again, places[len(ahead):], len(ahead), m)
    later = weighed(again, [len(again)] * len(again), len(ahead), m)
    return first + once / (1 - x) + later * x / (1 - x) ** 2


def weighed(signs, weights, start, m):
    """The sum of the signs times their weights, by m to the power of their places from a start."""
    last = start + len(signs)
    tops = [sign * weight * m ** (last - k)
            for k, (sign, weight) in enumerate(zip(signs, weights), start=start)]
    return Fraction(sum(tops), m ** last)
