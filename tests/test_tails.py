"""Chances of many tosses: against rows of tosses gone through, leaves counted, and knots of trees."""

import itertools
import unittest
from fractions import Fraction

from tests.machinery import (
    COIN, CROOKED, ENDING, ENDLESS, ENDLESS_PAIR, FIRST_THING, IS, LAST_THING, LINE, LONG,
    NOT_ENDING, NOT_MACHINES, PAIR, PERHAPS_ENDLESS, SIX, THING_BESIDE_STATES, THREE, TO,
    all_machines, short_rows, some_machine, things_of)
from tests.samples import (
    FEW_SHARES, HALVES, LARGE_SHARES, ONE, SIXTHS, SIXTIETHS, THIRDS, finite_trees, of_weights)
from tests.sums import value_of
from tests.wrong import (
    NOT_FROM_0, NOT_NUMBERS, NOT_SHARES, Asking, as_pair, is_plain_number)
from tosstrees.errors import InvalidMachine, InvalidNumber, InvalidShares
from tosstrees.machines import leaves_of, machine_for
from tosstrees.shares import both, parted
from tosstrees.tails import least_tail, surely, tail, within
from tosstrees.trees import drawn, knots, leaves

FEW = all_machines(2, 1) + all_machines(2, 2)[::11] + all_machines(1, 2)[::3]
SOME = [some_machine(seed, n, states, share)
        for seed, (n, states, share) in enumerate(itertools.product((1, 40), (5, 12), (10, 40, 80)))]
DYADIC = (
    (ONE, 0), (HALVES, 1), (((1, 2), (1, 4), (1, 4)), 2), (((1, 8), (7, 8)), 3),
    (of_weights((1,) * 4), 2), (of_weights((3, 5)), 3), (of_weights((1, 15)), 4),
    (of_weights((1, 2, 4, 8, 16, 1)), 5), (of_weights((31, 1)), 5), (of_weights((1, 63)), 6),
    (of_weights((1, 2 ** 40 - 1)), 40))
NOT_DYADIC = (
    THIRDS, SIXTHS, SIXTIETHS, ((1, 3), (2, 3)), ((1, 2), (1, 3), (1, 6)), ((1, 6), (5, 6)),
    ((1, 12), (11, 12)), ((1, 48), (47, 48)), ((1, 59), (58, 59)), of_weights((1,) * 5),
    ((1, 4), (1, 4), (1, 6), (1, 3)), ((1, 2), (1, 4), (1, 5), (1, 20)))
NOT_FAR = NOT_NUMBERS + ((0, 1), (-1, 1), (-1, 2), (-1, 10 ** 50))
SMALLEST = (1, 2 ** 299)


class TailsCase(Asking, unittest.TestCase):
    def wrong_shares(self, call, **more):
        for wrong in NOT_SHARES:
            self.fails(InvalidShares, wrong, call, shares=wrong, **more)


class LeastTail(TailsCase):
    def test_ordinary_ones(self):
        for shares, k, expected in (
                (ONE, 0, (0, 1)), (ONE, 300, (0, 1)), (HALVES, 0, (1, 1)), (HALVES, 1, (0, 1)),
                (HALVES, 300, (0, 1)), (THIRDS, 0, (1, 1)), (THIRDS, 1, (1, 1)), (THIRDS, 2, (1, 4)),
                (THIRDS, 3, (1, 4)), (THIRDS, 4, (1, 16)), (THIRDS, 300, (1, 2 ** 300)),
                (THIRDS, 299, (1, 2 ** 298)), (SIXTHS, 2, (1, 1)), (SIXTHS, 3, (1, 4)),
                (((1, 8), (7, 8)), 2, (1, 4)), (((1, 8), (7, 8)), 3, (0, 1))):
            self.tells(expected, least_tail, shares=shares, k=k)

    def test_against_knots(self):
        for shares in FEW_SHARES + LARGE_SHARES + [SIXTIETHS]:
            told = leaves(shares)
            for k in (0, 1, 2, 3, 4, 7, 57, 58, 59, 60, 299, 300):
                found = least_tail(shares, k)
                self.assertTrue(is_plain_number(found), found)
                self.assertEqual(Fraction(*found), Fraction(knots(told, k), 2 ** k), (shares, k))

    def test_machines_of_least_mean_have_it(self):
        for shares in FEW_SHARES[::5] + LARGE_SHARES[::8]:
            for k in (0, 1, 2, 3, 5, 8, 60, 300):
                self.assertEqual(least_tail(shares, k), tail(machine_for(shares), k), (shares, k))

    def test_no_tree_has_less(self):
        least = {}
        for told in finite_trees(2, 3) + finite_trees(3, 2):
            shares = tuple(share for share in drawn(told) if share[0] > 0)
            for k in range(4):
                here = Fraction(knots(told, k), 2 ** k)
                least[shares, k] = min(here, least.get((shares, k), here))
        for (shares, k), expected in least.items():
            self.assertEqual(Fraction(*least_tail(shares, k)), expected, (shares, k))

    def test_told_shares(self):
        for shares in (both(THIRDS, HALVES), parted(THIRDS, 1, of_weights((1, 4)))):
            signs = [leaves((share, as_pair(1 - Fraction(*share)))) for share in shares]
            for k in range(12):
                kept = sum(value_of([row[0] for row in ahead + again * 12][:k + 1], [0])
                           for ahead, again in signs)
                self.assertEqual(Fraction(*least_tail(shares, k)), 1 - kept)

    def test_wrong_inputs(self):
        self.wrong_shares(least_tail, k=0)
        for wrong in NOT_FROM_0:
            for shares in (ONE, THIRDS):
                self.fails(InvalidNumber, wrong, least_tail, shares=shares, k=wrong)
        for shares, k in itertools.product(NOT_SHARES[::4], NOT_FROM_0):
            self.fails(InvalidShares, shares, least_tail, shares=shares, k=k)


class Tail(TailsCase):
    def test_ordinary_ones(self):
        for machine, k, expected in (
                (THREE, 0, (1, 1)), (THREE, 1, (1, 1)), (THREE, 2, (1, 4)), (THREE, 300, (1, 2 ** 300)),
                (COIN, 0, (1, 1)), (COIN, 1, (0, 1)), (COIN, 300, (0, 1)), (PAIR, 1, (1, 2)),
                (PAIR, 300, (1, 2 ** 300)), (CROOKED, 300, (1, 2 ** 150)), (SIX, 3, (1, 4)),
                (FIRST_THING, 0, (0, 1)), (FIRST_THING, 1, (0, 1)), (FIRST_THING, 300, (0, 1)),
                (LAST_THING, 0, (0, 1)), (THING_BESIDE_STATES, 0, (0, 1)),
                (THING_BESIDE_STATES, 300, (0, 1))):
            self.tells(expected, tail, machine=machine, k=k)

    def test_machines_that_do_not_end(self):
        for machine, k, expected in (
                (ENDLESS, 0, (1, 1)), (ENDLESS, 1, (1, 1)), (ENDLESS, 300, (1, 1)),
                (ENDLESS_PAIR, 300, (1, 1)), (PERHAPS_ENDLESS, 0, (1, 1)),
                (PERHAPS_ENDLESS, 1, (1, 2)), (PERHAPS_ENDLESS, 300, (1, 2))):
            self.tells(expected, tail, machine=machine, k=k)

    def test_all_rows_of_tosses(self):
        rows = short_rows(6)
        for machine in SOME + FEW + list(ENDING + NOT_ENDING):
            done = dict(zip(rows, things_of(machine, rows)))
            for k in range(7):
                longest = [row for row in rows if len(row) == k]
                open_rows = [row for row in longest
                             if all(done[row[:part]] is None for part in range(k + 1))]
                self.assertEqual(Fraction(*tail(machine, k)), Fraction(len(open_rows), 2 ** k), machine)

    def test_what_is_left_by_the_leaves(self):
        for machine in SOME + [SIX, CROOKED, LINE, LONG]:
            left = Fraction(1)
            for k in range(301):
                left -= Fraction(sum(leaves_of(machine, k)), 2 ** k)
                if k in (0, 1, 2, 10, 100, 179, 180, 181, 299, 300):
                    found = self.answer(tail, machine=machine, k=k)
                    self.assertTrue(is_plain_number(found))
                    self.assertEqual(Fraction(*found), left)

    def test_long_machines(self):
        self.tells((1, 1), tail, machine=LONG, k=179)
        self.tells((2 ** 179 - 1, 2 ** 179), tail, machine=LONG, k=180)
        self.tells((1, 2 ** 179), tail, machine=LINE, k=179)
        self.tells((1, 2 ** 300), tail, machine=LINE, k=300)

    def test_wrong_inputs(self):
        for wrong in NOT_MACHINES:
            for k in (0, 300):
                self.fails(InvalidMachine, wrong, tail, machine=wrong, k=k)
        for wrong, machine in itertools.product(NOT_FROM_0, (THREE, FIRST_THING, ENDLESS)):
            self.fails(InvalidNumber, wrong, tail, machine=machine, k=wrong)
        for machine, wrong in itertools.product(NOT_MACHINES[::4], NOT_FROM_0):
            self.fails(InvalidMachine, machine, tail, machine=machine, k=wrong)


class Surely(TailsCase):
    def test_bottoms_that_are_powers_of_two(self):
        for shares, expected in DYADIC:
            self.tells(expected, surely, shares=shares)
            self.assertEqual(least_tail(shares, expected), (0, 1))
            if expected > 0:
                self.assertNotEqual(least_tail(shares, expected - 1), (0, 1))

    def test_other_bottoms(self):
        for shares in NOT_DYADIC:
            self.tells(None, surely, shares=shares)

    def test_trees_that_have_no_knots_below(self):
        for shares in FEW_SHARES + LARGE_SHARES:
            ahead, again = leaves(shares)
            endless = any(any(row) for row in again)
            self.assertEqual(surely(shares), None if endless else len(ahead) - 1, shares)

    def test_of_all_trees_of_a_depth(self):
        found = {}
        for told in finite_trees(2, 3):
            shares = tuple(share for share in drawn(told) if share[0] > 0)
            depth = max(k for k, row in enumerate(told[0]) if any(row))
            found[shares] = min(depth, found.get(shares, depth))
        for shares, depth in found.items():
            self.assertEqual(surely(shares), depth, shares)

    def test_no_shares(self):
        self.wrong_shares(surely)


class Within(TailsCase):
    def test_ordinary_ones(self):
        for shares, far, expected in (
                (THIRDS, (1, 100), 8), (THIRDS, (1, 1), 0), (THIRDS, (99, 100), 2), (THIRDS, (1, 4), 2),
                (THIRDS, (6, 25), 4), (THIRDS, (1, 16), 4),
                (HALVES, (1, 2), 1), (HALVES, (1, 10 ** 90), 1), (ONE, (1, 10 ** 90), 0),
                (ONE, (1, 1), 0), (((1, 8), (7, 8)), (1, 4), 2), (((1, 8), (7, 8)), (1, 5), 3)):
            self.tells(expected, within, shares=shares, far=far)

    def test_a_far_of_1_and_more(self):
        for shares in (ONE, HALVES, THIRDS, SIXTIETHS):
            for far in ((1, 1), (3, 2), (2, 1), (10 ** 40, 1), (10 ** 40 + 1, 10 ** 40)):
                self.tells(0, within, shares=shares, far=far)

    def test_the_least_k(self):
        for shares in FEW_SHARES[::3] + LARGE_SHARES[::3]:
            for far in ((1, 2), (1, 3), (2, 3), (1, 10), (1, 1000), (1, 2 ** 60)):
                k = within(shares, far)
                self.assertLessEqual(Fraction(*least_tail(shares, k)), Fraction(*far))
                if k > 0:
                    self.assertGreater(Fraction(*least_tail(shares, k - 1)), Fraction(*far))

    def test_a_far_that_is_told_exactly(self):
        for shares in FEW_SHARES[::4] + LARGE_SHARES[::4]:
            tails = [least_tail(shares, k) for k in range(30)]
            for told in tails:
                if told[0] > 0:
                    first = tails.index(told)
                    self.tells(first, within, shares=shares, far=told)
                    less = as_pair(Fraction(*told) - Fraction(1, 10 ** 40))
                    self.assertGreater(within(shares, less), first)

    def test_a_very_small_far(self):
        self.tells(300, within, shares=THIRDS, far=(1, 2 ** 299))
        self.tells(300, within, shares=THIRDS, far=(1, 2 ** 300))
        self.tells(298, within, shares=THIRDS, far=(1, 2 ** 298))
        for shares in (SIXTHS, SIXTIETHS, ((1, 59), (58, 59)), of_weights((1, 7, 11, 13, 9, 18))):
            k = self.answer(within, shares=shares, far=SMALLEST)
            self.assertIn(k, range(299, 303))
            self.assertLessEqual(Fraction(*least_tail(shares, k)), Fraction(*SMALLEST))
            self.assertGreater(Fraction(*least_tail(shares, k - 1)), Fraction(*SMALLEST))

    def test_wrong_inputs(self):
        self.wrong_shares(within, far=(1, 2))
        for wrong, shares in itertools.product(NOT_FAR, (ONE, THIRDS)):
            self.fails(InvalidNumber, wrong, within, shares=shares, far=wrong)
        for shares, wrong in itertools.product(NOT_SHARES[::4], NOT_FAR):
            self.fails(InvalidShares, shares, within, shares=shares, far=wrong)


if __name__ == "__main__":
    unittest.main()
