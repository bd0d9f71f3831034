"""Several things drawn at once: against products, figures by long division, and least means."""

import itertools
import math
import unittest
from fractions import Fraction

from tests.samples import HALVES, ONE, SIXTHS, THIRDS, of_weights, weights_of
from tests.sums import cost_of, figures_by_division
from tests.wrong import (
    NOT_FROM_0, NOT_FROM_1, NOT_SHARES, Asking, as_fractions, as_pair, is_plain_number)
from tosstrees.errors import InvalidNumber, InvalidShares
from tosstrees.means import least_mean
from tosstrees.rows import even_mean, lot_mean, many, saved, shuffle_mean
from tosstrees.shares import both

SAMPLES = sorted({of_weights(row) for whole in range(1, 8) for row in weights_of(whole, 4)})
SAMPLES += [of_weights(row) for row in (
    (1, 19), (1, 2, 3, 14), (9, 11), (4, 15), (1, 18), (1, 2, 3, 13), (8, 9), (1, 12), (2, 9), (1, 3, 5, 7))]


def many_by_products(shares, k):
    return tuple(as_pair(math.prod(row)) for row in itertools.product(as_fractions(shares), repeat=k))


def least_by_division(shares):
    costs = {share: cost_of(*figures_by_division(share)) for share in set(shares)}
    return sum(costs[share] for share in shares)


class RowsCase(Asking, unittest.TestCase):
    def wrong_count(self, call):
        for wrong in NOT_FROM_1:
            self.fails(InvalidNumber, wrong, call, n=wrong)

    def wrong_draws(self, call):
        for wrong in NOT_SHARES:
            self.fails(InvalidShares, wrong, call, shares=wrong, k=1)
        for wrong, shares in itertools.product(NOT_FROM_1, (ONE, THIRDS)):
            self.fails(InvalidNumber, wrong, call, shares=shares, k=wrong)
        for shares, k in itertools.product(NOT_SHARES[::3], NOT_FROM_1):
            self.fails(InvalidShares, shares, call, shares=shares, k=k)


class Many(RowsCase):
    def test_ordinary_ones(self):
        for shares, k, expected in (
                (HALVES, 2, of_weights((1,) * 4)), (HALVES, 1, HALVES), (ONE, 1, ONE), (ONE, 3, ONE),
                (HALVES, 3, of_weights((1,) * 8)), (((1, 3), (2, 3)), 2, of_weights((1, 2, 2, 4))),
                (((1, 4), (3, 4)), 3, of_weights((1, 3, 3, 9, 3, 9, 9, 27))),
                (of_weights((1, 2, 3)), 2, of_weights((1, 2, 3, 2, 4, 6, 3, 6, 9)))):
            self.tells(expected, many, shares=shares, k=k)

    def test_against_products(self):
        for shares, k in itertools.product(SAMPLES, (1, 2, 3)):
            found = many(shares, k)
            self.assertEqual(found, many_by_products(shares, k))
            self.assertIs(type(found), tuple)
            self.assertTrue(all(is_plain_number(share) for share in found))

    def test_as_pairs(self):
        for shares in SAMPLES:
            self.assertEqual(many(shares, 2), both(shares, shares))
            self.assertEqual(many(shares, 3), both(both(shares, shares), shares))

    def test_wrong_inputs(self):
        self.wrong_draws(many)


class Saved(RowsCase):
    def test_ordinary_ones(self):
        for shares, k, expected in (
                (((1, 4), (3, 4)), 1, (0, 1)), (ONE, 3, (0, 1)), (HALVES, 3, (0, 1)), (THIRDS, 1, (0, 1)),
                (of_weights((1, 1, 2)), 2, (0, 1)), (((1, 4), (3, 4)), 2, (3, 4)), (THIRDS, 2, (2, 3)),
                (((1, 3), (2, 3)), 2, (2, 3))):
            self.tells(expected, saved, shares=shares, k=k)

    def test_against_division(self):
        for shares, k in itertools.product(SAMPLES, (1, 2, 3)):
            rows = many_by_products(shares, k)
            expected = k * least_by_division(shares) - least_by_division(rows)
            found = saved(shares, k)
            self.assertTrue(is_plain_number(found), found)
            self.assertEqual(Fraction(*found), expected, (shares, k))
            self.assertGreaterEqual(expected, 0)
            if k == 1:
                self.assertEqual(found, (0, 1))

    def test_above_0(self):
        for shares in (THIRDS, ((1, 3), (2, 3)), ((1, 4), (3, 4)), of_weights((1, 19))):
            for k in (2, 3):
                self.assertGreater(self.answer(saved, shares=shares, k=k)[0], 0)

    def test_wrong_inputs(self):
        self.wrong_draws(saved)


class EvenMean(RowsCase):
    def test_ordinary_ones(self):
        for n, expected in (
                (1, (0, 1)), (2, (1, 1)), (3, (8, 3)), (4, (2, 1)), (5, (18, 5)), (6, (11, 3)), (7, (24, 7)),
                (8, (3, 1)), (256, (8, 1))):
            self.tells(expected, even_mean, n=n)

    def test_powers_of_two(self):
        for k in range(9):
            self.tells((k, 1), even_mean, n=2 ** k)

    def test_up_to_500(self):
        for n in range(1, 501):
            found = even_mean(n)
            self.assertTrue(is_plain_number(found))
            self.assertEqual(Fraction(*found), n * cost_of(*figures_by_division((1, n))), n)

    def test_least_means(self):
        for n in (*range(1, 20), 60, 128, 499, 500):
            self.tells(least_mean(((1, n),) * n), even_mean, n=n)

    def test_no_number_of_things(self):
        self.wrong_count(even_mean)


class ShuffleMean(RowsCase):
    def test_ordinary_ones(self):
        for n, expected in ((1, (0, 1)), (2, (1, 1)), (3, (11, 3))):
            self.tells(expected, shuffle_mean, n=n)

    def test_orders(self):
        for n in range(1, 7):
            orders = len(list(itertools.permutations(range(n))))
            self.tells(least_mean(((1, orders),) * orders), shuffle_mean, n=n)

    def test_no_number_of_things(self):
        self.wrong_count(shuffle_mean)


class LotMean(RowsCase):
    def test_ordinary_ones(self):
        for n, k, expected in (
                (4, 2, (11, 3)), (1, 0, (0, 1)), (1, 1, (0, 1)), (2, 1, (1, 1)), (3, 1, (8, 3)), (3, 2, (8, 3)),
                (4, 1, (2, 1)), (12, 0, (0, 1)), (12, 12, (0, 1)), (8, 7, (3, 1))):
            self.tells(expected, lot_mean, n=n, k=k)

    def test_lots(self):
        for n in range(1, 13):
            for k in range(n + 1):
                lots = len(list(itertools.combinations(range(n), k)))
                self.tells(as_pair(lots * cost_of(*figures_by_division((1, lots)))), lot_mean, n=n, k=k)

    def test_none_and_all(self):
        for n in range(1, 13):
            self.tells((0, 1), lot_mean, n=n, k=0)
            self.tells((0, 1), lot_mean, n=n, k=n)
            self.assertEqual(lot_mean(n, 1), even_mean(n))

    def test_wrong_inputs(self):
        for n in (1, 6, 12):
            for wrong in NOT_FROM_0 + (n + 1, n + 2, 10 ** 30):
                self.fails(InvalidNumber, wrong, lot_mean, n=n, k=wrong)
        for wrong in NOT_FROM_1:
            for k in (0, 1, 2) + NOT_FROM_0:
                self.fails(InvalidNumber, wrong, lot_mean, n=wrong, k=k)


if __name__ == "__main__":
    unittest.main()
