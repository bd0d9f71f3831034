"""Dice: against all short rows of them, long division, and sums of rows by fractions."""

import itertools
import math
import unittest
from fractions import Fraction

from tests.samples import (
    FEW_SHARES, HALVES, LARGE_SHARES, ONE, SIXTHS, SIXTIETHS, THIRDS, of_weights)
from tests.sums import cost_of, figures_by_division, value_of
from tests.wrong import (
    NOT_FROM_2, NOT_NUMBERS, NOT_SHARES, NUMBERS_OUTSIDE, Asking, as_fractions, is_plain_number)
from tosstrees.dice import (
    base_figures, die_mean, die_surely, fewest_dice, is_bounded, is_dice, row_draw)
from tosstrees.errors import InvalidDice, InvalidNumber, InvalidShares
from tosstrees.figures import figures
from tosstrees.means import least_mean

DICE = (
    (), (2,), (3,), (6,), (20,), (2, 3), (4, 6), (2, 6), (6, 10), (6, 10, 15), (2, 3, 5, 7, 11),
    (4, 9, 10), (12, 18, 20), (8, 12, 14), (3, 5, 17, 19), (16, 17, 18, 19, 20), (10, 14, 15))
NOT_ROWS = (
    None, True, False, 0, 2, "", "ab", b"ab", 0.5, [], [2], [2, 3], {}, {2: 3}, {2, 3}, range(2, 4),
    object, (1,), (0,), (-2,), (True,), (False,), (None,), ("2",), (2.0,), ((2,),), ([2],), (1, 2),
    (2, True), (0, 2), (3, 2), (2, 3, 2), (6, 4), (20, 2), (2, None), (2, "3"), (2, 3, (4,)))
NOT_DICE = NOT_ROWS + ((2, 2), (6, 6), (2, 3, 3), (2, 2, 3), (6,) * 5)
# Bottoms of at most 60 that do not all divide one integer of at most 60.
MIXED = (
    ((1, 32), (7, 32), (1, 54), (13, 27), (1, 20), (1, 5)),
    ((1, 57), (6, 19), (1, 51), (16, 51), (1, 48), (5, 16)),
    ((1, 49), (48, 49)), ((1, 4), (1, 6), (1, 10), (1, 15), (5, 12)))
SAMPLES = FEW_SHARES[::3] + LARGE_SHARES[::3] + [ONE, HALVES, THIRDS, SIXTHS, SIXTIETHS] + list(MIXED)
BASES = (2, 3, 4, 6, 7, 10, 12, 19, 20)
NUMBERS = [(top, bottom) for bottom in (*range(1, 31), 60, 81, 97, 128, 180, 199, 200)
           for top in range(bottom + 1) if math.gcd(top, bottom) == 1]


def bottom_of(shares):
    return math.lcm(*[bottom for _, bottom in shares])


def primes_of(wholes):
    """The primes that divide some of a few integers."""
    return {k for whole in wholes for k in range(2, whole + 1)
            if whole % k == 0 and all(k % j for j in range(2, k))}


class DiceCase(Asking, unittest.TestCase):
    def wrong_shares(self, call, **more):
        for wrong in NOT_SHARES:
            self.fails(InvalidShares, wrong, call, shares=wrong, **more)

    def wrong_dice(self, call):
        for wrong in NOT_DICE:
            for shares in (ONE, THIRDS):
                self.fails(InvalidDice, wrong, call, shares=shares, dice=wrong)
        for shares, wrong in itertools.product(NOT_SHARES[::3], NOT_DICE):
            self.fails(InvalidShares, shares, call, shares=shares, dice=wrong)


class IsDice(DiceCase):
    def test_dice(self):
        for told in DICE + ((10 ** 30,), (2, 10 ** 30), tuple(range(2, 200))):
            self.tells(True, is_dice, told=told)

    def test_no_dice(self):
        for told in NOT_DICE:
            self.tells(False, is_dice, told=told)

    def test_all_short_rows(self):
        for many in range(4):
            for told in itertools.product(range(5), repeat=many):
                expected = tuple(sorted(set(told))) == told and all(sides > 1 for sides in told)
                self.tells(expected, is_dice, told=told)


class IsBounded(DiceCase):
    def test_ordinary_ones(self):
        for shares, dice, expected in (
                (THIRDS, (4, 6), True), (THIRDS, (2,), False), (THIRDS, (), False), (THIRDS, (3,), True),
                (ONE, (), True), (ONE, (7,), True), (HALVES, (3, 5), False), (HALVES, (6,), True),
                (SIXTHS, (2,), False), (SIXTHS, (3,), False), (SIXTHS, (2, 3), True), (SIXTHS, (6,), True),
                (SIXTIETHS, (6, 10), True), (SIXTIETHS, (6, 15), True), (SIXTIETHS, (9, 15), False),
                (of_weights((1, 31)), (2,), True), (of_weights((1, 48)), (14,), True)):
            self.tells(expected, is_bounded, shares=shares, dice=dice)

    def test_prime_by_prime(self):
        for shares, dice in itertools.product(SAMPLES, DICE):
            missing = primes_of(bottom for _, bottom in shares) - primes_of(dice)
            self.assertIs(is_bounded(shares, dice), not missing, (shares, dice))

    def test_wrong_inputs(self):
        self.wrong_shares(is_bounded, dice=(2,))
        self.wrong_dice(is_bounded)


class FewestDice(DiceCase):
    def test_ordinary_ones(self):
        for shares, dice, expected in (
                (((1, 12), (11, 12)), (2, 6), (2, 6)), (ONE, (), ()), (ONE, (2, 6), ()), (THIRDS, (), None),
                (THIRDS, (4, 6), (6,)), (THIRDS, (2, 3, 6), (3,)), (HALVES, (3, 5, 9), None),
                (SIXTHS, (2, 3), (2, 3)), (SIXTHS, (2, 3, 6), (6,)), (of_weights((1, 31)), (2,), (2,) * 5),
                (of_weights((1, 31)), (2, 4), (2, 4, 4)), (of_weights((1, 31)), (4, 6, 8), (4, 8)),
                (of_weights((1, 35)), (6, 10, 15), (6, 6)), (of_weights((1, 59)), (6, 10, 15), (6, 10)),
                (of_weights((1, 29)), (6, 10, 15), (6, 10)), (of_weights((1, 59)), (4, 15), (4, 15)),
                (of_weights((1, 59)), (6, 20), (6, 20)), (of_weights((1, 48)), (7, 14), (7, 7)),
                (of_weights((1, 26)), (2, 3), (3, 3, 3)), (of_weights((1, 26)), (6, 9), (6, 9))):
            self.tells(expected, fewest_dice, shares=shares, dice=dice)

    def test_against_all_short_rows(self):
        for shares, dice in itertools.product(SAMPLES, DICE):
            rows = [row for many in range(4) for row in itertools.combinations_with_replacement(dice, many)
                    if math.prod(row) % bottom_of(shares) == 0]
            found = fewest_dice(shares, dice)
            if rows:
                self.assertEqual(found, rows[0], (shares, dice))
            elif found is None:
                self.assertIs(is_bounded(shares, dice), False)
            else:
                self.assertGreater(len(found), 3)
                self.assertEqual(math.prod(found) % bottom_of(shares), 0)

    def test_many_dice(self):
        for shares in MIXED:
            for dice in ((2, 3, 5, 7, 17), (2, 3, 5, 17, 19), (6, 10, 14, 17, 19), (2, 7)):
                bottom = bottom_of(shares)
                expected = None
                if is_bounded(shares, dice):
                    expected = next(row for many in itertools.count()
                                    for row in itertools.combinations_with_replacement(dice, many)
                                    if math.prod(row) % bottom == 0)
                self.tells(expected, fewest_dice, shares=shares, dice=dice)

    def test_wrong_inputs(self):
        self.wrong_shares(fewest_dice, dice=(2,))
        self.wrong_dice(fewest_dice)


class RowDraw(DiceCase):
    def test_ordinary_ones(self):
        for shares, row, expected in (
                (((1, 12), (11, 12)), (2, 6), (1, 11)), (ONE, (), (1,)), (ONE, (2, 6), (12,)),
                (THIRDS, (6,), (2, 2, 2)), (THIRDS, (3, 3), (3, 3, 3)), (HALVES, (2,), (1, 1)),
                (SIXTIETHS, (4, 15), (1, 7, 12, 15, 5, 20)), (SIXTHS, (2, 2, 3, 20), (40,) * 6)):
            self.tells(expected, row_draw, shares=shares, row=row)

    def test_all_told_rows(self):
        for shares, dice in itertools.product(SAMPLES, DICE):
            row = fewest_dice(shares, dice)
            if row is not None:
                for longer in (row, row + (20,), row + (20, 20)):
                    found = row_draw(shares, longer)
                    parts = [Fraction(many, math.prod(longer)) for many in found]
                    self.assertEqual(parts, as_fractions(shares))
                    self.assertEqual({type(many) for many in found}, {int})

    def test_rows_by_which_they_can_not_be_drawn(self):
        for shares, row in (
                (THIRDS, ()), (HALVES, ()), (THIRDS, (2,)), (THIRDS, (2, 4, 20)), (SIXTIETHS, (2, 15)),
                (SIXTIETHS, (6, 6)), (of_weights((1, 31)), (2, 2, 2, 2)), (of_weights((1, 48)), (14,)),
                (((1, 4), (1, 6), (1, 10), (1, 15), (5, 12)), (6, 6, 6))):
            self.fails(InvalidDice, row, row_draw, shares=shares, row=row)

    def test_wrong_inputs(self):
        self.wrong_shares(row_draw, row=(2, 2))
        for wrong in NOT_ROWS:
            for shares in (ONE, THIRDS):
                self.fails(InvalidDice, wrong, row_draw, shares=shares, row=wrong)
        for shares, wrong in itertools.product(NOT_SHARES[::3], NOT_ROWS):
            self.fails(InvalidShares, shares, row_draw, shares=shares, row=wrong)


class BaseFigures(DiceCase):
    def test_ordinary_ones(self):
        for number, m, expected in (
                ((1, 2), 3, ((0,), (1,))), ((0, 1), 2, ((), (0,))), ((0, 1), 3, ((), (0,))),
                ((0, 1), 20, ((), (0,))), ((1, 1), 2, ((1,), (0,))), ((1, 1), 10, ((1,), (0,))),
                ((1, 1), 20, ((1,), (0,))), ((1, 3), 10, ((0,), (3,))), ((1, 7), 10, ((0,), (1, 4, 2, 8, 5, 7))),
                ((1, 6), 10, ((0, 1), (6,))), ((1, 20), 20, ((0, 1), (0,))), ((19, 20), 20, ((0, 19), (0,))),
                ((1, 4), 10, ((0, 2, 5), (0,))), ((3, 4), 3, ((), (0, 2))), ((10, 11), 10, ((), (0, 9))),
                ((1, 19), 20, ((0,), (1,))), ((2, 3), 2, ((), (0, 1))), ((1, 199), 198, ((0,), (0, 197)))):
            self.tells(expected, base_figures, number=number, m=m)

    def test_base_two(self):
        for number in NUMBERS:
            self.assertEqual(base_figures(number, 2), figures(number), number)

    def test_long_division(self):
        for m, number in itertools.product(BASES, NUMBERS[::3] + [(0, 1), (1, 1)]):
            ahead, again = base_figures(number, m)
            self.assertEqual(value_of(ahead, again, m), Fraction(*number))
            told = figures_by_division(number, m)
            self.assertEqual((ahead + again * 3)[:len(told[0] + told[1])], tuple(told[0] + told[1]))

    def test_both_are_as_short_as_can_be(self):
        for m, number in itertools.product(BASES, NUMBERS[::3] + [(0, 1), (1, 1)]):
            ahead, again = base_figures(number, m)
            self.assertTrue(all(0 <= sign < m for sign in ahead + again))
            self.assertNotEqual(set(again), {m - 1})
            self.assertNotEqual(ahead[-1:], again[-1:], (number, m))
            for k in range(1, len(again)):
                if len(again) % k == 0:
                    self.assertNotEqual(again[:k] * (len(again) // k), again, (number, m))

    def test_kinds_of_the_answer(self):
        for m in BASES:
            found = self.answer(base_figures, number=(1, 180), m=m)
            self.assertEqual([type(found), type(found[0]), type(found[1])], [tuple] * 3)
            self.assertEqual({type(sign) for part in found for sign in part}, {int})

    def test_wrong_inputs(self):
        wrong_numbers = NOT_NUMBERS + NUMBERS_OUTSIDE
        for wrong in wrong_numbers:
            self.fails(InvalidNumber, wrong, base_figures, number=wrong, m=3)
        for wrong, number in itertools.product(NOT_FROM_2, ((0, 1), (1, 3))):
            self.fails(InvalidNumber, wrong, base_figures, number=number, m=wrong)
        for number, m in itertools.product(wrong_numbers, NOT_FROM_2):
            self.fails(InvalidNumber, number, base_figures, number=number, m=m)


class DieMean(DiceCase):
    def test_ordinary_ones(self):
        for shares, m, expected in (
                (THIRDS, 3, (1, 1)), (HALVES, 3, (3, 2)), (ONE, 7, (0, 1)), (HALVES, 2, (1, 1)),
                (SIXTHS, 6, (1, 1)), (THIRDS, 6, (1, 1)), (SIXTIETHS, 20, (21, 19)),
                (((1, 4), (3, 4)), 4, (1, 1)), (((1, 16), (15, 16)), 4, (5, 4)), (HALVES, 10, (1, 1))):
            self.tells(expected, die_mean, shares=shares, m=m)

    def test_base_two(self):
        for shares in SAMPLES:
            self.assertEqual(die_mean(shares, 2), least_mean(shares), shares)

    def test_sums_of_leaves(self):
        for shares, m in itertools.product(SAMPLES, BASES):
            found = die_mean(shares, m)
            self.assertTrue(is_plain_number(found), found)
            costs = [cost_of(*figures_by_division(share, m), m) for share in shares]
            self.assertEqual(Fraction(*found), sum(costs), (shares, m))

    def test_against_the_first_throws(self):
        for shares, m in itertools.product(SAMPLES[::4], (3, 10, 20)):
            told = sum(Fraction(sign * k, m ** k) for share in shares
                       for k, sign in enumerate(figures_of(share, m, 60)))
            found = Fraction(*self.answer(die_mean, shares=shares, m=m))
            self.assertTrue(told <= found < told + Fraction(1, 2 ** 50), (shares, m))

    def test_wrong_inputs(self):
        self.wrong_shares(die_mean, m=2)
        for wrong, shares in itertools.product(NOT_FROM_2, (ONE, THIRDS)):
            self.fails(InvalidNumber, wrong, die_mean, shares=shares, m=wrong)
        for shares, m in itertools.product(NOT_SHARES[::3], NOT_FROM_2):
            self.fails(InvalidShares, shares, die_mean, shares=shares, m=m)


def figures_of(number, m, many):
    """The first figures in base m, by the integers below the number's multiples."""
    wholes = [number[0] * m ** k // number[1] for k in range(many)]
    return [one - m * before for before, one in zip([0, *wholes], wholes)]


class DieSurely(DiceCase):
    def test_ordinary_ones(self):
        for shares, m, expected in (
                (THIRDS, 6, 1), (THIRDS, 2, None), (ONE, 2, 0), (ONE, 20, 0), (HALVES, 2, 1), (HALVES, 3, None),
                (of_weights((1, 31)), 2, 5), (of_weights((1, 31)), 4, 3), (of_weights((1, 31)), 8, 2),
                (of_weights((1, 31)), 6, 5), (SIXTIETHS, 20, None), (SIXTIETHS, 15, None),
                (of_weights((1, 11)), 6, 2), (of_weights((1, 11)), 12, 1), (of_weights((1, 26)), 3, 3),
                (of_weights((1, 26)), 12, 3), (of_weights((1, 48)), 14, 2), (of_weights((1, 19)), 10, 2)):
            self.tells(expected, die_surely, shares=shares, m=m)

    def test_against_all_powers(self):
        for shares, m in itertools.product(SAMPLES, BASES):
            bottom = bottom_of(shares)
            found = [k for k in range(12) if m ** k % bottom == 0]
            self.assertEqual(die_surely(shares, m), found[0] if found else None, (shares, m))

    def test_trees_that_have_no_leaves_below(self):
        for shares, m in itertools.product(SAMPLES[::3], BASES):
            told = [base_figures(share, m) for share in shares]
            endless = any(any(again) for _, again in told)
            deepest = max(len(ahead) for ahead, _ in told) - 1
            self.tells(None if endless else deepest, die_surely, shares=shares, m=m)

    def test_wrong_inputs(self):
        self.wrong_shares(die_surely, m=2)
        for wrong, shares in itertools.product(NOT_FROM_2, (ONE, THIRDS)):
            self.fails(InvalidNumber, wrong, die_surely, shares=shares, m=wrong)
        for shares, m in itertools.product(NOT_SHARES[::3], NOT_FROM_2):
            self.fails(InvalidShares, shares, die_surely, shares=shares, m=m)


if __name__ == "__main__":
    unittest.main()
