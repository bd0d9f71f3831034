"""Trees of tosses: against long division, sums of rows by fractions, and all trees of few leaves."""

import itertools
import unittest
from fractions import Fraction

from tests.samples import (
    FEW_SHARES, FINITE, HALVES, LARGE_SHARES, LEAST, ONE, OTHER_TREES, SIXTIETHS, THIRDS,
    all_deeper, double_round, finite_trees, later_round)
from tests.sums import cost_of, division, value_of
from tests.wrong import NOT_FROM_0, NOT_SHARES, Asking, as_pair, is_plain_number
from tosstrees.errors import InvalidLeaves, InvalidNumber, InvalidShares
from tosstrees.trees import drawn, is_leaves, is_least, knots, leaves, mean_of

ZERO = ((0,),)
NO_PAIRS = (
    None, True, False, 0, 1, 7, "", "ab", b"ab", 0.5, (), [], {}, {0: 1, 1: 2}, object, ((),),
    (((1,),),), (((1,),), ZERO, ZERO), [((1,),), ZERO], ((1,), (0,)), (1, 0), ("1", "0"),
    (((1,), ZERO),), ((1,), ZERO), (((1,),), (0,)), (None, ZERO), (((1,),), None), {((1,),), ZERO})
NO_TUPLES = (
    ([(1,)], ZERO), (((1,),), [(0,)]), (([1],), ZERO), (((1,),), ([0],)), ({(1,): 1}, ZERO),
    (((1,),), {(0,): 1}), (({1: 0},), ZERO), (("1",), ("0",)), ((b"a",), (b"b",)),
    (((0, 0), [1, 1]), ((0, 0),)), (((0, 0), (1, 1)), ((0, 0), [0, 0])), (({1},), ZERO),
    ((None,), ZERO), (((1,),), (None,)), ((1,), (ZERO,)), (range(1), ZERO))
NO_INTEGERS = (
    (((True,),), ZERO), (((1,),), ((False,),)), (((0, 0), (1, True)), ((0, 0),)),
    (((False, 0), (1, 1)), ((0, 0),)), (((1.0,),), ZERO), (((1,),), ((0.0,),)), ((("1",),), ZERO),
    (((1,),), (("0",),)), (((1,),), ((None,),)), ((((1, 1),),), ZERO), (((1, None),), ((0, 0),)),
    (((0, 1),), ((0, "0"),)), (((0, 0), (1, (1, 1))), ((0, 0),)))
BELOW_0 = (
    (((2, -1),), ((0, 0),)), (((0, 0), (3, -1)), ((0, 0),)), (((0,), (2,), (1,)), ((-1,), (2,))),
    (((1, 0),), ((1, -1),)), (((1,),), ((-1,), (2,))), (((-1,), (4,)), ZERO),
    (((0, 0), (2, 1)), ((0, -1),)), (((0,), (1,)), ((3,), (-2,))))
UNLIKE = (
    (((1,), ()), ZERO), (((1,),), ((),)), (((1,),), ((0, 0),)), (((1, 0),), ZERO),
    (((0, 0), (2,)), ((0, 0),)), (((0,), (1, 1)), ((0, 0),)), (((0, 0), (1, 1)), ((0, 0), (0,))),
    (((0, 0), (1, 1)), ((0, 0, 0),)), (((0, 0, 0), (1, 1)), ((0, 0),)), (((),), ((),)),
    ((), ((),)), (((),), ((1,),)))
NO_ROUND = (((), ()), (((1,),), ()), (((0, 0), (1, 1)), ()))
OTHER_SUMS = (
    (ZERO, ZERO), (((0,), (1,)), ZERO), (((0, 0), (1, 0)), ((0, 0),)), (((2,),), ZERO),
    (((1,),), ((1,),)), (((1,), (1,)), ZERO), (((0, 0), (1, 1)), ((0, 1),)), (((1, 1),), ((0, 0),)),
    (((0, 0), (2, 1)), ((0, 0),)), (((0, 0, 0),), ((0, 0, 0), (1, 1, 0))),
    (((0, 0, 0),), ((0, 0, 0), (1, 1, 2))), (((0,), (0,)), ((1,),)), (((0,), (1,)), ((0,), (1,))),
    (ZERO + ((1,),) * 118, ZERO), (((0,),) * 118 + ((2 ** 117,),), ZERO),
    (((0,),) * 100 + ((2 ** 100 + 1,),), ZERO), (((0,),) * 100 + ((2 ** 100,),), ((0,),) * 19 + ((1,),)))
# Rows that come again from depth 0 on add up to an odd number by an odd one less or more than 1.
NO_AHEAD = (
    ((), ((1,),)), ((), ZERO), ((), ((0,), (1,))), ((), ((0,), (2,))), ((), ((0,), (1,), (1,))),
    ((), ((0,), (3,))), ((), ((0, 0), (1, 1))), ((), ((1, 0), (0, 0))), ((), ((0, 0), (1, 0), (1, 0))),
    ((), ((0,), (1,), (1,), (1,))), ((), ((0,), (0,), (3,))))
NOT_LEAVES = (NO_PAIRS + NO_TUPLES + NO_INTEGERS + BELOW_0 + UNLIKE + NO_ROUND + OTHER_SUMS + NO_AHEAD)
LONGER = [change(told) for _, told in LEAST for change in (later_round, double_round)]
LONGER += [later_round(later_round(double_round(told))) for _, told in LEAST]
DEEPER = [told for _, least in LEAST for told in all_deeper(later_round(double_round(least)))]
TREES = [told for _, told in LEAST] + LONGER + DEEPER + FINITE + list(OTHER_TREES)


def column(rows, thing):
    return [row[thing] for row in rows]


def drawn_by_sums(told):
    ahead, again = told
    return tuple(as_pair(value_of(column(ahead, thing), column(again, thing)))
                 for thing in range(len(again[0])))


def mean_by_sums(told):
    ahead, again = told
    return cost_of([sum(row) for row in ahead], [sum(row) for row in again])


def row_at(told, depth):
    ahead, again = told
    if depth < len(ahead):
        return ahead[depth]
    return again[(depth - len(ahead)) % len(again)]


def knots_by_counting(told, most):
    """How many knots there are at each depth: twice those above, less the leaves."""
    places, found = 1, []
    for depth in range(most + 1):
        found.append(places - sum(row_at(told, depth)))
        places = 2 * found[-1]
    return found


class TreesCase(Asking, unittest.TestCase):
    def wrong_leaves(self, call, **more):
        for wrong in NOT_LEAVES:
            self.fails(InvalidLeaves, wrong, call, leaves=wrong, **more)


class IsLeaves(TreesCase):
    def test_trees(self):
        for told in TREES:
            self.tells(True, is_leaves, told=told)

    def test_trees_of_least_mean(self):
        for shares in FEW_SHARES + LARGE_SHARES:
            self.assertIs(is_leaves(leaves(shares)), True, shares)

    def test_all_rows_of_a_few_numbers(self):
        for ahead, again in itertools.product(range(4), range(1, 4)):
            for row in itertools.product(range(3), repeat=ahead + again):
                rows = tuple((many,) for many in row)
                self.tells(value_of(row[:ahead], row[ahead:]) == 1, is_leaves,
                           told=(rows[:ahead], rows[ahead:]))

    def test_of_things_together(self):
        rows = list(itertools.product(range(3), repeat=2))
        for one, two, three in itertools.product(rows, repeat=3):
            expected = value_of([sum(one), sum(two)], [sum(three)]) == 1
            self.tells(expected, is_leaves, told=((one, two), (three,)))

    def test_no_pair(self):
        for told in NO_PAIRS:
            self.tells(False, is_leaves, told=told)

    def test_what_is_no_tuple(self):
        for told in NO_TUPLES + NO_INTEGERS:
            self.tells(False, is_leaves, told=told)

    def test_numbers_below_0(self):
        for told in BELOW_0:
            self.tells(False, is_leaves, told=told)

    def test_rows_of_unlike_lengths(self):
        for told in UNLIKE:
            self.tells(False, is_leaves, told=told)

    def test_an_empty_round(self):
        for told in NO_ROUND:
            self.tells(False, is_leaves, told=told)

    def test_sums_of_more_or_less_than_1(self):
        for told in OTHER_SUMS + NO_AHEAD:
            self.tells(False, is_leaves, told=told)

    def test_without_ahead_nothing_adds_up_to_1(self):
        for many in range(1, 6):
            for row in itertools.product(range(4), repeat=many):
                self.tells(False, is_leaves, told=((), tuple((one,) for one in row)))


class Leaves(TreesCase):
    def test_ordinary_ones(self):
        for shares, expected in LEAST:
            self.tells(expected, leaves, shares=shares)

    def test_the_leaves_are_the_figures(self):
        for shares in FEW_SHARES + LARGE_SHARES:
            ahead, again = leaves(shares)
            rows = list(ahead + again + again)
            signs = [division(share, len(rows)) for share in shares]
            self.assertEqual(rows, list(zip(*signs)), shares)
            self.assertEqual(drawn_by_sums((ahead, again)), shares)

    def test_both_are_as_short_as_can_be(self):
        for shares in FEW_SHARES + LARGE_SHARES:
            ahead, again = leaves(shares)
            self.assertNotEqual(ahead[-1], again[-1], shares)
            for k in range(1, len(again)):
                if len(again) % k == 0:
                    self.assertNotEqual(again[:k] * (len(again) // k), again, shares)

    def test_kinds_of_the_answer(self):
        for shares in FEW_SHARES[::9] + LARGE_SHARES:
            found = self.answer(leaves, shares=shares)
            self.assertEqual([type(found), type(found[0]), type(found[1])], [tuple] * 3)
            self.assertEqual({type(row) for part in found for row in part}, {tuple})
            self.assertEqual({type(one) for part in found for row in part for one in row}, {int})

    def test_the_longest_ones(self):
        for whole, many in ((59, 58), (53, 52), (37, 36)):
            found = self.answer(leaves, shares=((1, whole), (whole - 1, whole)))
            self.assertEqual((len(found[0]), len(found[1])), (1, many))
        self.assertEqual(len(leaves(SIXTIETHS)[0]), 3)
        self.assertEqual(len(leaves(SIXTIETHS)[1]), 4)

    def test_no_shares(self):
        for wrong in NOT_SHARES:
            self.fails(InvalidShares, wrong, leaves, shares=wrong)


class Drawn(TreesCase):
    def test_ordinary_ones(self):
        for shares, told in LEAST:
            for leaves_told in (told, later_round(told), double_round(told)):
                self.tells(shares, drawn, leaves=leaves_told)

    def test_things_of_share_0(self):
        for told, expected in (
                ((((0, 1),), ((0, 0),)), ((0, 1), (1, 1))),
                ((((0, 0),), ((0, 0), (0, 3))), ((0, 1), (1, 1))),
                ((((0, 0, 0), (1, 0, 1)), ((0, 0, 0),)), ((1, 2), (0, 1), (1, 2))),
                ((((0, 0, 0),), ((1, 0, 0), (0, 1, 0))), ((2, 3), (1, 3), (0, 1)))):
            self.tells(expected, drawn, leaves=told)

    def test_all_trees(self):
        for told in TREES:
            found = self.answer(drawn, leaves=told)
            self.assertEqual(found, drawn_by_sums(told))
            self.assertTrue(all(is_plain_number(share) for share in found))
            self.assertEqual(sum(Fraction(*share) for share in found), 1)

    def test_deeper_trees_have_the_same_shares(self):
        for shares, least in LEAST:
            for told in all_deeper(later_round(double_round(least))):
                self.tells(shares, drawn, leaves=told)

    def test_no_leaves(self):
        self.wrong_leaves(drawn)


class MeanOf(TreesCase):
    def test_ordinary_ones(self):
        for told, expected in (
                ((((1,),), ((0,),)), (0, 1)), ((((0, 0), (1, 1)), ((0, 0),)), (1, 1)),
                ((((0, 0, 0),), ((0, 0, 0), (1, 1, 1))), (8, 3)), ((((0,),), ((1,),)), (2, 1)),
                ((((0, 0), (0, 0), (2, 2)), ((0, 0),)), (2, 1)),
                ((((0, 0),), ((0, 1), (1, 0))), (2, 1)), ((((0,),), ((0,), (3,))), (8, 3)),
                ((((0, 0), (0, 1), (1, 1)), ((0, 0),)), (3, 2))):
            self.tells(expected, mean_of, leaves=told)

    def test_all_trees(self):
        for told in TREES:
            found = self.answer(mean_of, leaves=told)
            self.assertTrue(is_plain_number(found))
            self.assertEqual(Fraction(*found), mean_by_sums(told), told)

    def test_the_least_mean_is_the_sum_of_costs(self):
        for shares in FEW_SHARES + LARGE_SHARES:
            told = leaves(shares)
            costs = [cost_of(column(told[0], k), column(told[1], k)) for k in range(len(shares))]
            self.assertEqual(Fraction(*mean_of(told)), sum(costs), shares)

    def test_no_leaves(self):
        self.wrong_leaves(mean_of)


class IsLeast(TreesCase):
    def test_least_trees(self):
        for _, told in LEAST:
            for leaves_told in (told, later_round(told), double_round(told)):
                self.tells(True, is_least, leaves=leaves_told)
        for shares in FEW_SHARES + LARGE_SHARES:
            self.tells(True, is_least, leaves=leaves(shares))

    def test_deeper_trees_are_not_least(self):
        for told in DEEPER:
            self.tells(False, is_least, leaves=told)

    def test_ordinary_ones(self):
        expected = (
            False, False, False, False, True, True, False, False, False, False, False, False)
        self.assertEqual(len(expected), len(OTHER_TREES))
        for told, least in zip(OTHER_TREES, expected):
            self.tells(least, is_least, leaves=told)

    def test_of_all_finite_trees_those_of_least_mean(self):
        for n, depth in ((1, 3), (2, 3), (3, 2)):
            least = {}
            trees = finite_trees(n, depth)
            for told in trees:
                shares, mean = drawn_by_sums(told), mean_by_sums(told)
                least[shares] = min(mean, least.get(shares, mean))
            for told in trees:
                expected = mean_by_sums(told) == least[drawn_by_sums(told)]
                self.assertIs(is_least(told), expected, told)

    def test_of_all_rounds_those_of_least_mean(self):
        rows = [row for row in itertools.product(range(4), repeat=2) if sum(row) <= 3]
        for one, two, three in itertools.product(rows, repeat=3):
            told = (((0, 0), one), (two, three))
            if value_of([0, sum(one)], [sum(two), sum(three)]) == 1:
                shares = [share for share in drawn_by_sums(told) if share[0] > 0]
                expected = mean_by_sums(told) == mean_by_sums(leaves(tuple(shares)))
                self.tells(expected, is_least, leaves=told)

    def test_no_leaves(self):
        self.wrong_leaves(is_least)


class Knots(TreesCase):
    def test_ordinary_ones(self):
        thirds = leaves(THIRDS)
        for told, k, expected in (
                (thirds, 0, 1), (thirds, 1, 2), (thirds, 2, 1), (thirds, 299, 2), (thirds, 300, 1),
                (leaves(ONE), 0, 0), (leaves(ONE), 1, 0), (leaves(ONE), 300, 0),
                (leaves(HALVES), 0, 1), (leaves(HALVES), 1, 0), (leaves(HALVES), 300, 0),
                ((((0,),), ((1,),)), 300, 1), ((((0,), (0,), (0,), (8,)), ((0,),)), 2, 4),
                ((((0,), (0,), (0,), (8,)), ((0,),)), 3, 0)):
            self.tells(expected, knots, leaves=told, k=k)

    def test_all_trees(self):
        for told in TREES:
            expected = knots_by_counting(told, 12)
            self.assertEqual([knots(told, k) for k in range(13)], expected, told)

    def test_up_to_300(self):
        for told in [leaves(shares) for shares in LARGE_SHARES[::7]] + list(OTHER_TREES):
            expected = knots_by_counting(told, 300)
            for k in (0, 1, 2, 57, 58, 59, 60, 119, 120, 121, 150, 299, 300):
                self.tells(expected[k], knots, leaves=told, k=k)

    def test_wrong_inputs(self):
        self.wrong_leaves(knots, k=0)
        self.wrong_leaves(knots, k=300)
        for wrong in NOT_FROM_0:
            for right in (leaves(ONE), leaves(THIRDS)):
                self.fails(InvalidNumber, wrong, knots, leaves=right, k=wrong)

    def test_several_wrong_inputs(self):
        for wrong, k in itertools.product(NOT_LEAVES[::5], NOT_FROM_0):
            self.fails(InvalidLeaves, wrong, knots, leaves=wrong, k=k)


if __name__ == "__main__":
    unittest.main()
