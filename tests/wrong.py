"""Values that are none of a sort, and how a call that is due to raise is asked."""

import copy
from fractions import Fraction

NOT_NUMBERS = (
    None, True, False, 0, 1, 7, "", "1", "12", "1/2", b"", b"12", (), (1,), (1, 2, 3), [], [1, 2],
    [0, 1], {}, {1: 2, 3: 4}, {1, 2}, 0.5, (1, 0), (0, 0), (-1, 0), (1, -2), (-1, -2), (0, -1),
    (2, 4), (0, 2), (3, 3), (-2, 4), (6, 3), (True, 2), (1, True), (True, True), (False, 1),
    ("1", 2), (1, "2"), "ab", (None, 1), (1, None), ((1, 2), 3), (1, (2, 3)), ([1], 2), (0.5, 1),
    (1, 2.0), ((1, 2),), (10 ** 400, 10 ** 401), object)
NUMBERS_OUTSIDE = ((-1, 1), (-1, 2), (2, 1), (3, 2), (61, 60), (-1, 10 ** 50), (10 ** 50 + 1, 10 ** 50))
NOT_SHARES = (
    None, True, False, 0, 1, "", "ab", b"ab", (), [], {}, (1, 1), (1, 2), ((),), (None,), ("12",),
    [(1, 1)], [(1, 2), (1, 2)], ([1, 2], [1, 2]), ((1, 2), [1, 2]), {(1, 1): 1}, {(1, 1)},
    ((1, 2),), ((1, 2), (1, 3)), ((1, 2), (2, 3)), ((1, 1), (1, 1)), ((2, 1),), ((5, 6),),
    ((2, 4), (1, 2)), ((2, 2),), ((0, 1),), ((0, 1), (1, 1)), ((1, 2), (0, 1), (1, 2)),
    ((3, 2), (-1, 2)), ((-1, 2), (3, 2)), ((1, 1), (-1, 1), (1, 1)), ((-1, 1),),
    ((-1, -2), (-1, -2)), ((1, 2), (-1, -2)), ((True, 1),), ((1, True),), ((True, 2), (1, 2)),
    ((1, 2), (1, 2), None), ((1, 2), (1, 2), ()), ((1, 2), (1, 2), 0), ((1, 2), "12"), 1.0,
    ((1, 0),), ((1, 2, 3),), ((1, 10 ** 60), (10 ** 60 - 2, 10 ** 60)), (((1, 2), (1, 2)),), object)
NOT_FROM_0 = (
    None, True, False, -1, -300, -10 ** 30, "", "0", "12", b"1", (), (0,), (1, 2), [], [1], {},
    0.0, 1.0, 0.5, object)
NOT_FROM_1 = NOT_FROM_0 + (0,)
NOT_FROM_2 = NOT_FROM_1 + (1,)


def same(one, other):
    """Whether two values are alike in their types, too (True is not 1, a list no tuple)."""
    if type(one) is not type(other):
        return False
    if isinstance(one, (list, tuple)):
        return len(one) == len(other) and all(same(a, b) for a, b in zip(one, other))
    return one == other


def is_plain_number(told):
    """Whether an answer is a number, by Python's own fractions."""
    if type(told) is not tuple or [type(part) for part in told] != [int, int]:
        return False
    found = Fraction(told[0], told[1])
    return (found.numerator, found.denominator) == told


def as_pair(fraction):
    return (fraction.numerator, fraction.denominator)


def as_fractions(shares):
    return [Fraction(top, bottom) for top, bottom in shares]


class Asking:
    """For a TestCase: calls by position and by name, with all arguments left as they were."""

    def answer(self, call, **named):
        before = copy.deepcopy(named)
        found = call(*named.values())
        if not same(call(**named), found):
            self.fail(f"{call.__name__}: another answer by name, or the second time: {before}")
        self.is_unchanged(call, named, before)
        return found

    def is_unchanged(self, call, named, before):
        if not same(list(named.values()), list(before.values())):
            self.fail(f"{call.__name__} changed what it was handed: {before}")

    def tells(self, expected, call, **named):
        found = self.answer(call, **named)
        if not same(found, expected):
            self.fail(f"{call.__name__} {named}: {found}, not {expected}")

    def fails(self, kind, value, call, **named):
        before = copy.deepcopy(named)
        for told, by_name in ((named.values(), {}), ((), named)):
            try:
                call(*told, **by_name)
            except ValueError as error:
                if type(error) is not kind or error.value is not value:
                    self.fail(f"{call.__name__} {named}: {error!r}")
            else:
                self.fail(f"{call.__name__} {named}: no error")
        self.is_unchanged(call, named, before)
