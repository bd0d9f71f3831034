"""Machines: what they draw and where they lead, against plain steps and Gauss's way."""

import itertools
import random
import unittest
from fractions import Fraction

from tests.machinery import (
    COIN, CROOKED, ENDING, ENDLESS, ENDLESS_PAIR, FIRST_THING, IS, LAST_THING, LATE_ENDLESS, LINE, LONG,
    NO_BEGINNINGS, NO_COUNTS, NO_ROWS, NO_STATES, NO_TRIPLES, NOT_ENDING, NOT_MACHINES, PAIR,
    PERHAPS_ENDLESS, PRIME, SIX, STATE_BESIDE, STATES_TWICE, THING_BESIDE_STATES, THREE, TO,
    all_machines, never_out, scattered, shares_by_fractions, shares_by_prime, some_machine,
    thing_of)
from tests.wrong import NOT_FROM_0, Asking, as_fractions, is_plain_number
from tosstrees.errors import InvalidMachine, InvalidNumber, InvalidRow, NeverEnds, NotDrawn
from tosstrees.machines import ends, is_machine, leaves_of, shares_of, walk

FEW = all_machines(1, 1) + all_machines(2, 1) + all_machines(1, 2) + all_machines(2, 2)[::5]
SOME = [some_machine(seed, n, states, share)
        for seed, (n, states, share) in enumerate(itertools.product((1, 3, 40), (5, 12), (15, 40, 70)))]
NOT_TOSSES = (
    None, True, False, 0, 1, "", "01", b"01", {}, {0: 1}, {0, 1}, range(2), object, 0.5, (2,),
    (-1,), [2], [0, 1, 2], (0, -1), (True,), [False], (0, True, 1), [1, False], ("0",), ["1"],
    (None,), [None], ((0,),), [[1]], (0.0,), [1.0], (10 ** 40,), ([0], 1))


class MachinesCase(Asking, unittest.TestCase):
    def wrong_machine(self, call, **more):
        for wrong in NOT_MACHINES:
            self.fails(InvalidMachine, wrong, call, machine=wrong, **more)


class IsMachine(MachinesCase):
    def test_machines(self):
        for told in ENDING + NOT_ENDING + (LONG, LINE) + tuple(SOME) + tuple(FEW[::10]):
            self.tells(True, is_machine, told=told)

    def test_many_things_or_states(self):
        for told in ((40, (IS, 39), ()), (10 ** 30, (IS, 10 ** 30 - 1), ()),
                     (1, (TO, 999), (((TO, 0), (TO, 999)),) * 1000)):
            self.tells(True, is_machine, told=told)

    def test_no_triple(self):
        for told in NO_TRIPLES:
            self.tells(False, is_machine, told=told)

    def test_no_count_of_things(self):
        for told in NO_COUNTS:
            self.tells(False, is_machine, told=told)

    def test_no_place_to_begin(self):
        for told in NO_BEGINNINGS + NO_STATES:
            self.tells(False, is_machine, told=told)

    def test_no_rows(self):
        for told in NO_ROWS:
            self.tells(False, is_machine, told=told)

    def test_each_place_counts(self):
        for wrong in ((TO, 3), (IS, 3), (TO, -1), [TO, 0], (TO, True)):
            for at, side in itertools.product(range(3), range(2)):
                rows = [list(row) for row in THREE[2]]
                rows[at][side] = wrong
                self.tells(False, is_machine, told=(3, (TO, 0), tuple(tuple(row) for row in rows)))


class Ends(MachinesCase):
    def test_machines_that_end(self):
        for machine in ENDING + (LONG, LINE):
            self.tells(True, ends, machine=machine)

    def test_machines_that_do_not_end_or_may_not(self):
        for machine in NOT_ENDING:
            self.tells(False, ends, machine=machine)

    def test_all_small_machines(self):
        for machine in FEW:
            self.assertIs(ends(machine), not never_out(machine), machine)

    def test_some_machines(self):
        found = {ends(machine) for machine in SOME}
        self.assertEqual(found, {True, False})
        for machine in SOME:
            self.tells(not never_out(machine), ends, machine=machine)

    def test_a_long_way_out_and_none(self):
        rows = LONG[2][:-1]
        self.tells(False, ends, machine=(2, (TO, 0), rows + (((TO, 178), (TO, 0)),)))
        self.tells(True, ends, machine=(2, (TO, 0), rows + (((TO, 178), (IS, 0)),)))
        self.tells(True, ends, machine=(2, (IS, 1), rows + (((TO, 178), (TO, 0)),)))

    def test_no_machine(self):
        self.wrong_machine(ends)


class SharesOf(MachinesCase):
    def test_ordinary_ones(self):
        for machine, expected in (
                (PAIR, ((1, 1), (0, 1))), (FIRST_THING, ((1, 1),)),
                (LAST_THING, ((0, 1), (0, 1), (1, 1))), (THING_BESIDE_STATES, ((0, 1), (1, 1))),
                (COIN, ((1, 2), (1, 2))), (THREE, ((1, 3),) * 3), (CROOKED, ((1, 2), (1, 2))),
                (STATE_BESIDE, ((1, 2), (1, 2))), (STATES_TWICE, ((1, 1), (0, 1))),
                (SIX, ((1, 6),) * 6), ((3, (TO, 0), (((TO, 0), (IS, 1)),)), ((0, 1), (1, 1), (0, 1))),
                ((2, (TO, 0), (((TO, 1), (IS, 0)), ((TO, 0), (IS, 1)))), ((2, 3), (1, 3))),
                (LONG, ((1, 2), (1, 2)))):
            self.tells(expected, shares_of, machine=machine)

    def test_all_small_machines(self):
        for machine in FEW:
            if never_out(machine):
                self.fails(NeverEnds, machine, shares_of, machine=machine)
            else:
                self.are_shares(shares_of(machine), machine)

    def test_some_machines(self):
        more = [some_machine(seed, 3, 12, 30) for seed in range(40)]
        for machine in SOME + more:
            if not never_out(machine):
                self.are_shares(self.answer(shares_of, machine=machine), machine)

    def are_shares(self, found, machine):
        self.assertIs(type(found), tuple)
        self.assertTrue(all(is_plain_number(number) for number in found), found)
        self.assertEqual(as_fractions(found), shares_by_fractions(machine), machine)

    def test_machines_of_180_states(self):
        many = 0
        for seed, (n, share) in enumerate(itertools.product((2, 40), (2, 5, 20, 50))):
            machine = some_machine(seed, n, 180, share)
            if not never_out(machine):
                many += 1
                found = self.answer(shares_of, machine=machine)
                self.assertEqual(sum(as_fractions(found)), 1)
                self.assertEqual([top * pow(bottom, -1, PRIME) % PRIME for top, bottom in found],
                                 shares_by_prime(machine))
        self.assertGreater(many, 3)

    def test_a_line_of_180_states(self):
        expected = [Fraction(0)] * 40
        for k in range(179):
            expected[k % 40] += Fraction(1, 2 ** (k + 1))
        expected[3] += Fraction(1, 2 ** 179)
        self.assertEqual(as_fractions(self.answer(shares_of, machine=LINE)), expected)

    def test_machines_that_do_not_end(self):
        for machine in NOT_ENDING:
            self.fails(NeverEnds, machine, shares_of, machine=machine)

    def test_no_machine(self):
        self.wrong_machine(shares_of)


class Walk(MachinesCase):
    def test_ordinary_ones(self):
        for machine, tosses, expected in (
                (THREE, (0, 0, 1, 1, 0, 1), ((0, 1), (TO, 0))), (THREE, (), ((), (TO, 0))),
                (THREE, (0,), ((), (TO, 1))), (THREE, (1,), ((), (TO, 2))),
                (THREE, (1, 1), ((), (TO, 0))), (THREE, (1, 1, 1, 0, 1), ((2,), (TO, 2))),
                (COIN, (1, 0, 0, 1), ((1, 0, 0, 1), (TO, 0))), (PAIR, (1, 1, 1), ((), (TO, 0))),
                (CROOKED, (0, 1, 1, 1, 1), ((0,), (TO, 1))), (CROOKED, (1,), ((), (TO, 1))),
                (ENDLESS, (0, 1), ((), (TO, 0))), (ENDLESS_PAIR, (0,), ((), (TO, 0))),
                (LATE_ENDLESS, (1, 1, 0), ((), (TO, 3))), (PERHAPS_ENDLESS, (0, 1), ((0,), (TO, 1)))):
            self.tells(expected, walk, machine=machine, tosses=tosses)
            self.tells(expected, walk, machine=machine, tosses=list(tosses))

    def test_no_tosses(self):
        for machine in ENDING + NOT_ENDING + (LONG, LINE):
            self.tells(((), machine[1]), walk, machine=machine, tosses=())
            self.tells(((), machine[1]), walk, machine=machine, tosses=[])

    def test_machines_that_begin_with_a_thing(self):
        for machine in (FIRST_THING, LAST_THING, THING_BESIDE_STATES):
            for tosses in ((0,), [1], (0, 1) * 150, [0] * 300):
                self.fails(NotDrawn, machine, walk, machine=machine, tosses=tosses)

    def test_each_toss_by_itself(self):
        pick = random.Random(7)
        for machine in SOME + [LONG, LINE, THREE, CROOKED, SIX]:
            for many in (1, 2, 9, 300):
                tosses = [pick.randrange(2) for _ in range(many)]
                self.tells(self.by_steps(machine, tosses), walk, machine=machine, tosses=tosses)

    def by_steps(self, machine, tosses):
        """Cuts the tosses behind each row of them that leads to a thing."""
        things, start = [], 0
        for k in range(1, len(tosses) + 1):
            thing = thing_of(machine, tosses[start:k])
            if thing is not None:
                things.append(thing)
                start = k
        place = machine[1]
        for toss in tosses[start:]:
            place = machine[2][place[1]][toss]
        return (tuple(things), place)

    def test_behind_300_tosses(self):
        self.tells(((0,) * 150, (TO, 0)), walk, machine=THREE, tosses=(0,) * 300)
        self.tells(((0,), (TO, 120)), walk, machine=LONG, tosses=[0] * 300)
        self.tells((tuple([0, 1] * 150), (TO, 0)), walk, machine=COIN, tosses=[0, 1] * 150)

    def test_no_tosses_of_0_and_1(self):
        for wrong in NOT_TOSSES:
            for machine in (THREE, ENDLESS, FIRST_THING):
                self.fails(InvalidRow, wrong, walk, machine=machine, tosses=wrong)

    def test_no_machine(self):
        for tosses in ((), [0, 1], (1,) * 300):
            self.wrong_machine(walk, tosses=tosses)

    def test_several_wrong_inputs(self):
        for machine, tosses in itertools.product(NOT_MACHINES[::4], NOT_TOSSES):
            self.fails(InvalidMachine, machine, walk, machine=machine, tosses=tosses)


class LeavesOf(MachinesCase):
    def test_ordinary_ones(self):
        for machine, k, expected in (
                (THREE, 0, (0, 0, 0)), (THREE, 1, (0, 0, 0)), (THREE, 2, (1, 1, 1)),
                (THREE, 4, (1, 1, 1)), (THREE, 299, (0, 0, 0)), (THREE, 300, (1, 1, 1)),
                (FIRST_THING, 0, (1,)), (FIRST_THING, 1, (0,)), (FIRST_THING, 300, (0,)),
                (LAST_THING, 0, (0, 0, 1)), (LAST_THING, 300, (0, 0, 0)),
                (THING_BESIDE_STATES, 0, (0, 1)), (THING_BESIDE_STATES, 2, (0, 0)),
                (PAIR, 0, (0, 0)), (PAIR, 300, (1, 0)), (COIN, 1, (1, 1)), (COIN, 2, (0, 0)),
                (CROOKED, 2, (1, 1)), (CROOKED, 4, (2, 2)), (CROOKED, 300, (2 ** 149, 2 ** 149)),
                (ENDLESS, 0, (0,)), (ENDLESS, 300, (0,)), (ENDLESS_PAIR, 300, (0, 0)),
                (PERHAPS_ENDLESS, 1, (1, 0)), (PERHAPS_ENDLESS, 2, (0, 0))):
            self.tells(expected, leaves_of, machine=machine, k=k)

    def test_all_rows_of_tosses(self):
        for machine in SOME + FEW[::20] + [SIX]:
            for k in range(7):
                things = [thing_of(machine, row) for row in itertools.product((0, 1), repeat=k)]
                expected = tuple(things.count(thing) for thing in range(machine[0]))
                self.tells(expected, leaves_of, machine=machine, k=k)

    def test_up_to_300(self):
        for machine in (SIX, CROOKED, LINE, SOME[5], SOME[10]):
            rows = [leaves_of(machine, k) for k in range(301)]
            for thing, share in enumerate(shares_of(machine)):
                drawn = sum(Fraction(row[thing], 2 ** k) for k, row in enumerate(rows))
                left = 1 - sum(Fraction(sum(row), 2 ** k) for k, row in enumerate(rows))
                self.assertTrue(drawn <= Fraction(*share) <= drawn + left)

    def test_wrong_inputs(self):
        self.wrong_machine(leaves_of, k=0)
        self.wrong_machine(leaves_of, k=300)
        for wrong, machine in itertools.product(NOT_FROM_0, (THREE, FIRST_THING, ENDLESS)):
            self.fails(InvalidNumber, wrong, leaves_of, machine=machine, k=wrong)
        for machine, wrong in itertools.product(NOT_MACHINES[::4], NOT_FROM_0):
            self.fails(InvalidMachine, machine, leaves_of, machine=machine, k=wrong)


class Scattered(MachinesCase):
    def test_alike_machines_draw_alike(self):
        for seed, machine in enumerate((THREE, CROOKED, SIX, PERHAPS_ENDLESS, LATE_ENDLESS)):
            other = scattered(machine, 4, seed)
            self.assertIs(ends(other), ends(machine))
            for k in (0, 1, 2, 3, 10, 300):
                self.assertEqual(leaves_of(other, k), leaves_of(machine, k))
            if ends(machine):
                self.assertEqual(shares_of(other), shares_of(machine))


if __name__ == "__main__":
    unittest.main()
