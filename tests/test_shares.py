"""Numbers, shares, and shares made of others."""

import itertools
import unittest
from fractions import Fraction

from tests.wrong import (
    NOT_NUMBERS, NOT_SHARES, NUMBERS_OUTSIDE, Asking, as_fractions, as_pair, is_plain_number)
from tosstrees.errors import InvalidNumber, InvalidShares, InvalidThing
from tosstrees.shares import both, is_number, is_shares, parted, put_together, shares

ONE = ((1, 1),)
HALVES = ((1, 2), (1, 2))
THIRDS = ((1, 3), (1, 3), (1, 3))
MIXED = ((1, 4), (1, 6), (1, 12), (1, 2))
SIX = ((1, 60), (7, 60), (1, 5), (1, 4), (1, 12), (1, 3))
GREAT = 10 ** 500
RIGHT_SHARES = (ONE, HALVES, THIRDS, ((1, 4), (1, 2), (1, 4)), MIXED, SIX, ((59, 60), (1, 60)))
WRONG_WEIGHTS = (
    None, True, False, 0, 1, "", "12", b"12", (), [], {}, {1: 1}, {1, 2}, [0], (0,), [-1], [1, 0],
    (0, 1), [1, -1], [2, -1], (1, 2, 0), (1, -10 ** 50), [True], (True, 1), [1, False], (1, True),
    ["1"], (1, "2"), [None], (1, None), [[1]], ((1,),), ((1, 2),), [1, (1, 2)], (1.0,), [1, 0.5],
    range(1, 3), object)


def splits(n):
    """All ascending tuples of n things, one or more."""
    return [row for k in range(1, n + 1) for row in itertools.combinations(range(n), k)]


def wrong_thing(n):
    """What is none of n things."""
    return [None, True, False, -1, -n, n, n + 1, 10 ** 30, "", "0", b"0", (), (0,), [0], {}, 0.0,
            (0, 1), object]


def wrong_things(n):
    """What is no ascending tuple of some of n things, n from 3 on."""
    inner = [(wrong,) for wrong in wrong_thing(n)]
    behind = [(0, 1, wrong) for wrong in wrong_thing(n)]
    return [None, True, False, 0, 1, "", "01", b"01", (), [], [0], [0, 1], {}, {0: 1}, {0, 1},
            range(2), object, (1, 0), (0, 0), (0, 1, 1), (0, 0, 1), (2, 1), (0, 2, 1), (1, 2, 0),
            (1, 0, 2), (0, n), (n - 1, n), (-1, 0), (-1,), ((0,), 1), ((0, 1),),
            tuple(range(n + 1)), tuple(reversed(range(n)))] + inner + behind


class SharesCase(Asking, unittest.TestCase):
    def are_shares(self, found):
        self.assertIs(type(found), tuple)
        self.assertTrue(all(is_plain_number(part) and part[0] > 0 for part in found), found)
        self.assertEqual(sum(as_fractions(found)), 1)
        self.assertIs(is_shares(found), True)


class Numbers(SharesCase):
    def test_fractions_in_lowest_terms_are_numbers(self):
        for bottom in range(1, 40):
            for top in range(-90, 90):
                expected = as_pair(Fraction(top, bottom)) == (top, bottom)
                self.tells(expected, is_number, told=(top, bottom))

    def test_numbers_of_any_size(self):
        for told in ((GREAT, GREAT + 1), (-GREAT, 1), (1, GREAT), (GREAT ** 8 + 1, GREAT ** 8)):
            self.tells(True, is_number, told=told)
        for told in ((GREAT, GREAT), (2 * GREAT, 3 * GREAT), (-GREAT, 10), (0, GREAT)):
            self.tells(False, is_number, told=told)

    def test_numbers_below_0_and_above_1_are_numbers(self):
        for told in NUMBERS_OUTSIDE + ((0, 1), (1, 1)):
            self.tells(True, is_number, told=told)

    def test_what_is_none(self):
        for told in NOT_NUMBERS:
            self.tells(False, is_number, told=told)


class Shares(SharesCase):
    def test_shares_are_shares(self):
        for told in RIGHT_SHARES:
            self.tells(True, is_shares, told=told)

    def test_what_is_none(self):
        for told in NOT_SHARES:
            self.tells(False, is_shares, told=told)

    def test_a_wrong_number_in_each_place(self):
        for place in range(3):
            for wrong in NOT_NUMBERS + NUMBERS_OUTSIDE + ((0, 1),):
                told = THIRDS[:place] + (wrong,) + THIRDS[place + 1:]
                self.tells(False, is_shares, told=told)

    def test_just_1_and_no_less_or_more(self):
        for tops in itertools.product(range(1, 12), repeat=3):
            told = tuple(as_pair(Fraction(top, 12)) for top in tops)
            self.tells(sum(tops) == 12, is_shares, told=told)

    def test_shares_of_any_size(self):
        for many in (5, 60, 3000):
            self.tells(True, is_shares, told=((1, many),) * many)
            self.tells(False, is_shares, told=((1, many),) * (many - 1))
            self.tells(False, is_shares, told=((1, many),) * (many + 1))
        self.tells(True, is_shares, told=((1, GREAT), (GREAT - 1, GREAT)))
        self.tells(False, is_shares, told=((1, GREAT), (GREAT - 3, GREAT)))
        told = tuple(as_pair(Fraction(1, k * (k + 1))) for k in range(1, 400))
        self.tells(True, is_shares, told=told + ((1, 400),))
        self.tells(False, is_shares, told=told + ((1, 399),))


class FromWeights(SharesCase):
    def test_shares_of_weights(self):
        self.tells(((1, 4), (1, 2), (1, 4)), shares, weights=[1, 2, 1])
        self.tells(ONE, shares, weights=[7])
        self.tells(ONE, shares, weights=(1,))
        self.tells(((1, 3), (2, 3)), shares, weights=(10, 20))

    def test_all_small_weights_as_list_and_tuple(self):
        for n in range(1, 5):
            for weights in itertools.product(range(1, 7), repeat=n):
                expected = tuple(as_pair(Fraction(one, sum(weights))) for one in weights)
                self.tells(expected, shares, weights=weights)
                self.tells(expected, shares, weights=list(weights))

    def test_great_weights(self):
        for weights in ([GREAT, 2 * GREAT], (GREAT, 1), [GREAT + k for k in range(6)],
                        (GREAT ** 20, 1, GREAT ** 20 - 1)):
            found = self.answer(shares, weights=weights)
            self.are_shares(found)
            self.assertEqual(as_fractions(found), [Fraction(one, sum(weights)) for one in weights])

    def test_what_are_no_weights(self):
        for wrong in WRONG_WEIGHTS:
            self.fails(InvalidNumber, wrong, shares, weights=wrong)


class PutTogether(SharesCase):
    def test_one_all_the_first_the_last(self):
        self.tells(MIXED, put_together, shares=MIXED, things=(2,))
        self.tells(ONE, put_together, shares=MIXED, things=(0, 1, 2, 3))
        self.tells(((5, 12), (1, 12), (1, 2)), put_together, shares=MIXED, things=(0, 1))
        self.tells(((1, 4), (1, 6), (7, 12)), put_together, shares=MIXED, things=(2, 3))
        self.tells(((3, 4), (1, 6), (1, 12)), put_together, shares=MIXED, things=(0, 3))
        self.tells(((1, 4), (2, 3), (1, 12)), put_together, shares=MIXED, things=(1, 3))
        self.tells(ONE, put_together, shares=ONE, things=(0,))

    def test_all_things_of_all_shares(self):
        for told in RIGHT_SHARES:
            for things in splits(len(told)):
                found = self.answer(put_together, shares=told, things=things)
                self.are_shares(found)
                parts = as_fractions(told)
                expected = [part for k, part in enumerate(parts) if k not in things]
                expected.insert(things[0], sum(parts[k] for k in things))
                self.assertEqual(as_fractions(found), expected)

    def test_many_things_and_great_bottoms(self):
        many = 3000
        found = self.answer(put_together, shares=((1, many),) * many, things=tuple(range(1, many)))
        self.assertEqual(found, ((1, many), (many - 1, many)))
        told = shares([GREAT + k for k in range(6)])
        self.are_shares(self.answer(put_together, shares=told, things=(1, 3, 5)))

    def test_wrong_shares(self):
        for wrong in NOT_SHARES:
            self.fails(InvalidShares, wrong, put_together, shares=wrong, things=(0,))

    def test_wrong_things(self):
        for told in (THIRDS, MIXED, SIX):
            for wrong in wrong_things(len(told)):
                self.fails(InvalidThing, wrong, put_together, shares=told, things=wrong)
        for wrong in ((1,), (0, 1), (0, 0), (), (-1,)):
            self.fails(InvalidThing, wrong, put_together, shares=ONE, things=wrong)

    def test_both_wrong(self):
        for wrong in NOT_SHARES:
            for things in wrong_things(3):
                self.fails(InvalidShares, wrong, put_together, shares=wrong, things=things)


class Parted(SharesCase):
    def test_first_middle_last_and_one(self):
        parts = ((1, 3), (2, 3))
        self.tells(((1, 6), (1, 3), (1, 2)), parted, shares=HALVES, thing=0, parts=parts)
        self.tells(((1, 2), (1, 6), (1, 3)), parted, shares=HALVES, thing=1, parts=parts)
        self.tells(((1, 3), (1, 9), (2, 9), (1, 3)), parted, shares=THIRDS, thing=1, parts=parts)
        self.tells(THIRDS, parted, shares=THIRDS, thing=2, parts=ONE)
        self.tells(SIX, parted, shares=ONE, thing=0, parts=SIX)

    def test_all_things_with_all_parts(self):
        for told in RIGHT_SHARES:
            for thing, parts in itertools.product(range(len(told)), RIGHT_SHARES):
                found = self.answer(parted, shares=told, thing=thing, parts=parts)
                self.are_shares(found)
                expected = as_fractions(told)
                expected[thing:thing + 1] = [expected[thing] * part for part in as_fractions(parts)]
                self.assertEqual(as_fractions(found), expected)

    def test_parted_and_put_together_again(self):
        for told, parts in itertools.product(RIGHT_SHARES, repeat=2):
            for thing in range(len(told)):
                found = parted(told, thing, parts)
                things = tuple(range(thing, thing + len(parts)))
                self.assertEqual(put_together(found, things), told)

    def test_wrong_shares_parts_and_thing(self):
        for wrong in NOT_SHARES:
            self.fails(InvalidShares, wrong, parted, shares=wrong, thing=0, parts=HALVES)
            self.fails(InvalidShares, wrong, parted, shares=HALVES, thing=0, parts=wrong)
        for told in RIGHT_SHARES:
            for wrong in wrong_thing(len(told)):
                self.fails(InvalidThing, wrong, parted, shares=told, thing=wrong, parts=HALVES)

    def test_several_wrong(self):
        for wrong, thing in itertools.product(NOT_SHARES, wrong_thing(2)):
            self.fails(InvalidShares, wrong, parted, shares=wrong, thing=thing, parts=HALVES)
            self.fails(InvalidShares, wrong, parted, shares=HALVES, thing=thing, parts=wrong)
        for wrong, other in itertools.product(NOT_SHARES, repeat=2):
            self.fails(InvalidShares, wrong, parted, shares=wrong, thing=0, parts=other)
            self.fails(InvalidShares, wrong, parted, shares=wrong, thing=None, parts=other)


class Both(SharesCase):
    def test_pairs(self):
        parts = ((1, 3), (2, 3))
        self.tells(((1, 6), (1, 3), (1, 6), (1, 3)), both, one=HALVES, other=parts)
        self.tells(((1, 6), (1, 6), (1, 3), (1, 3)), both, one=parts, other=HALVES)
        self.tells(SIX, both, one=ONE, other=SIX)
        self.tells(SIX, both, one=SIX, other=ONE)
        self.tells(ONE, both, one=ONE, other=ONE)

    def test_all_pairs_of_shares(self):
        for one, other in itertools.product(RIGHT_SHARES, repeat=2):
            found = self.answer(both, one=one, other=other)
            self.are_shares(found)
            self.assertEqual(len(found), len(one) * len(other))
            for i, j in itertools.product(range(len(one)), range(len(other))):
                share = Fraction(*one[i]) * Fraction(*other[j])
                self.assertEqual(found[i * len(other) + j], as_pair(share))

    def test_pairs_of_pairs(self):
        pairs = both(SIX, SIX)
        found = self.answer(both, one=pairs, other=pairs)
        self.are_shares(found)
        self.assertEqual(len(found), 1296)

    def test_wrong_shares(self):
        for wrong in NOT_SHARES:
            self.fails(InvalidShares, wrong, both, one=wrong, other=HALVES)
            self.fails(InvalidShares, wrong, both, one=HALVES, other=wrong)

    def test_both_wrong(self):
        for wrong, other in itertools.product(NOT_SHARES, repeat=2):
            self.fails(InvalidShares, wrong, both, one=wrong, other=other)


if __name__ == "__main__":
    unittest.main()
