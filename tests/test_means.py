"""Means and spreads: against sums over rows of tosses, Gauss's way with fractions, and trees."""

import itertools
import unittest
from fractions import Fraction

from tests.machinery import (
    COIN, CROOKED, ENDING, FIRST_THING, IS, LAST_THING, LINE, LONG, NOT_ENDING, NOT_MACHINES, PAIR,
    SIX, STATES_TWICE, THING_BESIDE_STATES, THREE, TO, all_machines, cleared, met_breadth_first,
    never_out, scattered, some_machine)
from tests.samples import (
    FEW_SHARES, HALVES, LARGE_SHARES, ONE, SIXTHS, SIXTIETHS, THIRDS, of_weights)
from tests.sums import cost_of, figures_by_division
from tests.wrong import NOT_SHARES, Asking, as_pair, is_plain_number
from tosstrees.errors import InvalidMachine, InvalidShares, NeverEnds
from tosstrees.machines import folded, leaves_of, machine_for
from tosstrees.means import least_mean, mean, over, spread
from tosstrees.readers import read_machine
from tosstrees.shares import both, parted
from tosstrees.texts import show_machine
from tosstrees.trees import leaves, mean_of

FEW = all_machines(1, 1) + all_machines(2, 1) + all_machines(2, 2)[::3]
SOME = [some_machine(seed, n, 12, share)
        for seed, (n, share) in enumerate(itertools.product((1, 3, 40), (15, 30, 50, 80)))]
SLOW = (2, (TO, 0), (((TO, 1), (TO, 1)), ((TO, 2), (TO, 2)), ((IS, 0), (IS, 1))))
WASTING = (3, (TO, 0), (((TO, 1), (TO, 1)), ((TO, 2), (TO, 0)), ((IS, 0), (IS, 2))))


def ending(machines):
    return [machine for machine in machines if not never_out(machine)]


def by_fractions(machine):
    """The mean and the mean square of how many tosses a machine takes."""
    if machine[1][0] == IS:
        return Fraction(0), Fraction(0)
    states = met_breadth_first(machine)
    means = solved_table(machine, states, lambda row: Fraction(2))
    known = dict(zip(states, means))

    def squares_line(row):
        return Fraction(2) + 2 * sum(known[place[1]] for place in row if place[0] == TO)

    return means[0], solved_table(machine, states, squares_line)[0]


def solved_table(machine, states, right):
    """Twice each state, less the states below, is what stands on the right."""
    table = []
    for k, state in enumerate(states):
        row = machine[2][state]
        line = [Fraction(0)] * len(states) + [right(row)]
        line[k] = Fraction(2)
        for place in row:
            if place[0] == TO:
                line[states.index(place[1])] -= 1
        table.append(line)
    cleared(table, len(states), lambda x: 1 / x, lambda x: x)
    return [line[-1] for line in table]


class MeansCase(Asking, unittest.TestCase):
    def wrong_machine(self, call):
        for wrong in NOT_MACHINES:
            self.fails(InvalidMachine, wrong, call, machine=wrong)
        for machine in NOT_ENDING:
            self.fails(NeverEnds, machine, call, machine=machine)

    def is_told(self, expected, call, machine):
        found = self.answer(call, machine=machine)
        self.assertTrue(is_plain_number(found), found)
        self.assertEqual(Fraction(*found), expected, machine)


class LeastMean(MeansCase):
    def test_ordinary_ones(self):
        for shares, expected in (
                (ONE, (0, 1)), (HALVES, (1, 1)), (THIRDS, (8, 3)), (((1, 3), (2, 3)), (2, 1)),
                (((1, 2), (1, 4), (1, 4)), (3, 2)), (((1, 4), (3, 4)), (3, 2)), (SIXTHS, (11, 3)),
                (of_weights((1,) * 4), (2, 1)), (of_weights((1,) * 5), (18, 5)),
                (((1, 8), (7, 8)), (7, 4)), (((1, 1024), (1023, 1024)), (1023, 512))):
            self.tells(expected, least_mean, shares=shares)

    def test_against_the_depths_of_the_leaves(self):
        for shares in FEW_SHARES + LARGE_SHARES + [SIXTHS, SIXTIETHS]:
            told = leaves(shares)
            rows = [[sum(row) for row in part] for part in told]
            found = self.answer(least_mean, shares=shares)
            self.assertTrue(is_plain_number(found), found)
            self.assertEqual(Fraction(*found), cost_of(*rows), shares)
            self.assertEqual(found, mean_of(told))

    def test_bottoms_of_up_to_1000(self):
        for shares in (both(SIXTIETHS, ((1, 13), (12, 13))), both(THIRDS, parted(HALVES, 0, SIXTIETHS)),
                       of_weights((1, 996)), of_weights((1, 982)), of_weights((333, 333, 331)),
                       of_weights((499, 1, 500)), of_weights((1,) * 500)):
            costs = [cost_of(*figures_by_division(share)) for share in shares]
            found = self.answer(least_mean, shares=shares)
            self.assertEqual(Fraction(*found), sum(costs), shares)

    def test_no_shares(self):
        for wrong in NOT_SHARES:
            self.fails(InvalidShares, wrong, least_mean, shares=wrong)


class Mean(MeansCase):
    def test_ordinary_ones(self):
        for machine, expected in (
                (PAIR, (2, 1)), (COIN, (1, 1)), (THREE, (8, 3)), (SIX, (11, 3)), (CROOKED, (4, 1)),
                (FIRST_THING, (0, 1)), (LAST_THING, (0, 1)), (THING_BESIDE_STATES, (0, 1)),
                (STATES_TWICE, (4, 1)), (SLOW, (3, 1)), (WASTING, (5, 1)),
                ((2, (TO, 0), (((TO, 1), (IS, 0)), ((TO, 0), (IS, 1)))), (2, 1))):
            self.tells(expected, mean, machine=machine)

    def test_against_fractions(self):
        for machine in ending(FEW + SOME) + list(ENDING):
            self.is_told(by_fractions(machine)[0], mean, machine)

    def test_against_sums_over_rows_of_tosses(self):
        for machine in [PAIR, COIN, THREE, CROOKED, SIX] + ending(SOME):
            counts = [sum(leaves_of(machine, k)) for k in range(301)]
            ended = sum(Fraction(many, 2 ** k) for k, many in enumerate(counts))
            told = sum(Fraction(many * k, 2 ** k) for k, many in enumerate(counts))
            # From each state at least one of 2 ** 12 rows of 12 tosses leads to a thing.
            behind = (1 - ended) * (300 + 12 * 2 ** 12)
            self.assertTrue(told <= Fraction(*mean(machine)) <= told + behind, machine)

    def test_machines_of_least_mean(self):
        for shares in FEW_SHARES + LARGE_SHARES + [SIXTIETHS]:
            self.assertEqual(mean(machine_for(shares)), least_mean(shares), shares)
        self.tells(least_mean(SIXTIETHS), mean, machine=machine_for(SIXTIETHS))

    def test_alike_machines(self):
        for seed, machine in enumerate((PAIR, THREE, CROOKED, SIX, *ending(SOME)[:4])):
            other = scattered(machine, 3, seed)
            self.assertEqual((mean(other), spread(other)), (mean(machine), spread(machine)))
            self.assertEqual(mean(folded(other)), mean(machine))

    def test_machines_of_180_states(self):
        self.tells((2 ** 180 - 1, 1), mean, machine=LONG)
        expected = sum(Fraction(k, 2 ** k) for k in range(1, 180)) + Fraction(179 + 2, 2 ** 179)
        self.is_told(expected, mean, LINE)

    def test_no_machine_or_no_end(self):
        self.wrong_machine(mean)


class Spread(MeansCase):
    def test_ordinary_ones(self):
        for machine, expected in (
                (PAIR, (2, 1)), (COIN, (0, 1)), (THREE, (16, 9)), (CROOKED, (8, 1)),
                (FIRST_THING, (0, 1)), (LAST_THING, (0, 1)), (THING_BESIDE_STATES, (0, 1)),
                (SLOW, (0, 1)), (machine_for(((1, 2), (1, 4), (1, 4))), (1, 4)),
                ((2, (TO, 0), (((TO, 1), (IS, 0)), ((TO, 0), (IS, 1)))), (2, 1))):
            self.tells(expected, spread, machine=machine)

    def test_against_fractions(self):
        for machine in ending(FEW + SOME) + list(ENDING):
            one, square = by_fractions(machine)
            self.is_told(square - one * one, spread, machine)

    def test_against_sums_over_rows_of_tosses(self):
        for machine in [PAIR, COIN, THREE, CROOKED, SIX] + ending(SOME):
            counts = [sum(leaves_of(machine, k)) for k in range(301)]
            ended = sum(Fraction(many, 2 ** k) for k, many in enumerate(counts))
            told = sum(Fraction(many * k * k, 2 ** k) for k, many in enumerate(counts))
            square = Fraction(*spread(machine)) + Fraction(*mean(machine)) ** 2
            behind = (1 - ended) * 2 * (300 + 12 * 2 ** 12) ** 2
            self.assertTrue(told <= square <= told + behind, machine)

    def test_machines_told_by_machine_for(self):
        for shares in FEW_SHARES[::6] + LARGE_SHARES[::9]:
            machine = machine_for(shares)
            one, square = by_fractions(machine)
            self.assertEqual(Fraction(*spread(machine)), square - one * one, shares)

    def test_machines_of_180_states(self):
        # The tosses up to a row of 179 noughts, by the textbook's sum, and one more.
        r = 179
        self.tells((4 ** (r + 1) - (2 * r + 1) * 2 ** (r + 1) - 2, 1), spread, machine=LONG)
        for seed in range(2):
            machine = ending(some_machine(k, 40, 180, 5) for k in range(9 * seed, 9 * seed + 9))[0]
            machine = read_machine(show_machine(machine))
            one, square = by_fractions(machine)
            self.is_told(one, mean, machine)
            self.is_told(square - one * one, spread, machine)

    def test_no_machine_or_no_end(self):
        self.wrong_machine(spread)


class Over(MeansCase):
    def test_ordinary_ones(self):
        for machine, expected in (
                (PAIR, (2, 1)), (COIN, (0, 1)), (THREE, (0, 1)), (SIX, (0, 1)), (CROOKED, (3, 1)),
                (FIRST_THING, (0, 1)), (SLOW, (2, 1)), (WASTING, (4, 1))):
            self.tells(expected, over, machine=machine)

    def test_least_machines(self):
        for shares in FEW_SHARES + LARGE_SHARES[::4] + [SIXTHS, SIXTIETHS]:
            machine = machine_for(shares)
            self.assertEqual(over(machine), (0, 1), shares)
            self.assertEqual(over(folded(machine)), (0, 1), shares)

    def test_things_of_share_0(self):
        for machine, expected in (
                ((9, (IS, 8), ()), (0, 1)), ((5, (TO, 0), (((IS, 4), (IS, 1)),)), (0, 1)),
                ((5, (TO, 0), (((IS, 4), (TO, 1)), ((IS, 4), (IS, 1)))), (0, 1)),
                ((5, (TO, 0), (((IS, 4), (IS, 4)),)), (1, 1)),
                (STATES_TWICE, (4, 1))):
            self.tells(expected, over, machine=machine)

    def test_states_that_toss_for_nothing(self):
        for shares in FEW_SHARES[1::7]:
            n, begin, rows = machine_for(shares)
            many = len(rows)
            waiting = (n, (TO, many), rows + ((begin, begin),))
            self.tells((1, 1), over, machine=waiting)
            trying = (n, (TO, many), rows + ((begin, (TO, many)),))
            self.tells((2, 1), over, machine=trying)

    def test_against_means(self):
        for machine in ending(FEW):
            found = Fraction(*over(machine))
            least = least_mean(tuple(share for share in drawn_by(machine) if share[0] > 0))
            self.assertEqual(found, Fraction(*mean(machine)) - Fraction(*least), machine)
            self.assertGreaterEqual(found, 0)

    def test_no_machine_or_no_end(self):
        self.wrong_machine(over)


def drawn_by(machine):
    """The shares of a machine of at most two things and states."""
    _, begin, rows = machine
    if begin[0] == IS:
        return [(int(k == begin[1]), 1) for k in range(machine[0])]
    states = met_breadth_first(machine)
    first = solved_table(machine, states, lambda row: Fraction(row.count((IS, 0))))[0]
    return [as_pair(first), as_pair(1 - first)][:machine[0]]


if __name__ == "__main__":
    unittest.main()
