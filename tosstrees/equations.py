"""Equations that tell unknowns by each other and by what is known, with weights from 0 on.

An equation is (bottom, parts), parts a dict of weights: the unknown is the sum of its parts,
each by its weight, by the bottom. A part that has no equation of its own is known.
"""

from math import gcd


def solved(equations, wanted):
    """Return an equation of the wanted unknown whose parts all are known."""
    left = {unknown: freed(unknown, equations[unknown]) for unknown in equations}
    others = [unknown for unknown in equations if unknown != wanted]
    # The last ones go first: they are the states that a machine meets last, to which few others
    # lead, so that the equations stay short.
    for unknown in reversed(others):
        equation = left.pop(unknown)
        for other in list(left):
            if unknown in left[other][1]:
                left[other] = freed(other, put_in(left[other], unknown, equation))
    return left[wanted]


def put_in(equation, unknown, other):
    """Return an equation in which what an unknown is by another equation stands for it."""
    bottom, parts = equation
    its_bottom, its_parts = other
    found = {part: weight * its_bottom for part, weight in parts.items() if part != unknown}
    for part, weight in its_parts.items():
        found[part] = found.get(part, 0) + parts[unknown] * weight
    return (bottom * its_bottom, found)


def freed(unknown, equation):
    """Return the equation of an unknown without that unknown as a part, in lowest terms."""
    bottom, parts = equation
    bottom = bottom - parts.get(unknown, 0)
    common = bottom
    for part, weight in parts.items():
        if part != unknown:
            common = gcd(common, weight)
    found = {part: weight // common for part, weight in parts.items() if part != unknown}
    return (bottom // common, found)
