"""Machines for shares, against the words of the document put into steps by fractions."""

import unittest
from fractions import Fraction

from tests.machinery import IS, TO, met_breadth_first
from tests.samples import (
    FEW_SHARES, HALVES, LARGE_SHARES, ONE, SIXTHS, SIXTIETHS, THIRDS, of_weights)
from tests.sums import division
from tests.wrong import NOT_SHARES, Asking
from tosstrees.errors import InvalidShares
from tosstrees.machines import (
    alike, ends, folded, is_machine, leaves_of, machine_for, shares_of, walk)


def rests_at(shares, depth):
    return [Fraction(*share) * 2 ** depth % 1 for share in shares]


def by_rests(shares):
    """The machine of the document, depth by depth."""
    rests = [rests_at(shares, 0)]
    while rests[-1] not in rests[:-1]:
        rests.append(rests_at(shares, len(rests)))
    last = len(rests) - 1
    knots = [int(sum(row)) for row in rests]
    starts = [sum(knots[:depth]) for depth in range(last)]
    starts.append(starts[rests.index(rests[last])])
    places = [places_at(shares, depth, starts[depth], knots[depth]) for depth in range(last + 1)]
    rows = [(places[depth + 1][2 * k], places[depth + 1][2 * k + 1])
            for depth in range(last) for k in range(knots[depth])]
    return (len(shares), places[0][0], tuple(rows))


def places_at(shares, depth, start, many):
    """First the leaves, things ascending, then the knots."""
    leaves = [(IS, thing) for thing, (top, bottom) in enumerate(shares)
              if (top << depth) // bottom % 2 == 1]
    return leaves + [(TO, start + k) for k in range(many)]


class MachineFor(Asking, unittest.TestCase):
    def test_ordinary_ones(self):
        for shares, expected in (
                (ONE, (1, (IS, 0), ())), (HALVES, (2, (TO, 0), (((IS, 0), (IS, 1)),))),
                (THIRDS, (3, (TO, 0), (((TO, 1), (TO, 2)), ((IS, 0), (IS, 1)), ((IS, 2), (TO, 0))))),
                (((1, 3), (2, 3)), (2, (TO, 0), (((IS, 1), (TO, 1)), ((IS, 0), (TO, 0))))),
                (((1, 4), (3, 4)), (2, (TO, 0), (((IS, 1), (TO, 1)), ((IS, 0), (IS, 1))))),
                (((1, 6), (5, 6)), (2, (TO, 0), (((IS, 1), (TO, 1)), ((IS, 1), (TO, 2)),
                                                 ((IS, 0), (TO, 1))))),
                (((1, 2), (1, 4), (1, 4)), (3, (TO, 0), (((IS, 0), (TO, 1)), ((IS, 1), (IS, 2))))),
                (SIXTHS, (6, (TO, 0), (
                    ((TO, 1), (TO, 2)), ((TO, 3), (TO, 4)), ((TO, 5), (TO, 6)), ((IS, 0), (IS, 1)),
                    ((IS, 2), (IS, 3)), ((IS, 4), (IS, 5)), ((TO, 1), (TO, 2)))))):
            self.tells(expected, machine_for, shares=shares)

    def test_the_sequence_of_places(self):
        for shares in FEW_SHARES + LARGE_SHARES:
            self.assertEqual(machine_for(shares), by_rests(shares), shares)

    def test_it_draws_the_shares(self):
        for shares in FEW_SHARES + LARGE_SHARES:
            machine = machine_for(shares)
            self.assertIs(is_machine(machine), True)
            self.assertIs(ends(machine), True)
            self.assertEqual(shares_of(machine), shares)

    def test_its_leaves_are_the_figures(self):
        for shares in FEW_SHARES:
            self.has_figures(shares, range(14))
        for shares in LARGE_SHARES:
            self.has_figures(shares, (0, 1, 2, 3, 57, 58, 59, 60, 61, 120, 300))

    def has_figures(self, shares, depths):
        machine = machine_for(shares)
        signs = [division(share, 301) for share in shares]
        for k in depths:
            self.assertEqual(leaves_of(machine, k), tuple(row[k] for row in signs), (shares, k))

    def test_it_begins_with_a_state_that_leads_to_all(self):
        for shares in FEW_SHARES + LARGE_SHARES:
            machine = machine_for(shares)
            self.assertEqual(met_breadth_first(machine), list(range(len(machine[2]))))

    def test_it_need_not_be_folded(self):
        self.assertNotEqual(folded(machine_for(SIXTHS)), machine_for(SIXTHS))
        for shares in FEW_SHARES[::5] + LARGE_SHARES[::5] + [SIXTHS, SIXTIETHS]:
            machine = machine_for(shares)
            self.assertIsNone(alike(machine, folded(machine)))
            self.assertEqual(shares_of(folded(machine)), shares)

    def test_the_greatest_ones(self):
        for weights in ((9, 10, 11, 12, 8, 9), (1, 1, 1, 1, 1, 54), (5, 7, 11, 13, 17, 6)):
            shares = of_weights(weights)
            machine = self.answer(machine_for, shares=shares)
            self.assertLessEqual(len(machine[2]), 180)
            self.assertGreater(len(machine[2]), 100)
            self.assertEqual(shares_of(machine), shares)
            self.assertEqual(walk(machine, ()), ((), (TO, 0)))

    def test_twice_the_same(self):
        for shares in FEW_SHARES[::7] + LARGE_SHARES:
            self.answer(machine_for, shares=shares)

    def test_no_shares(self):
        for wrong in NOT_SHARES:
            self.fails(InvalidShares, wrong, machine_for, shares=wrong)


if __name__ == "__main__":
    unittest.main()
