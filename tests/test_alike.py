"""Which machines are alike, and the folded ones of them, against all short rows of tosses."""

import itertools
import unittest

from tests.machinery import (
    COIN, CROOKED, ENDING, ENDLESS, ENDLESS_PAIR, FIRST_THING, IS, LAST_THING, LATE_ENDLESS,
    NOT_ENDING, NOT_MACHINES, PAIR, PERHAPS_ENDLESS, SIX, STATE_BESIDE, STATES_TWICE,
    THING_BESIDE_STATES, THREE, TO, all_machines, met_breadth_first, scattered, short_rows,
    some_machine, thing_of, things_of)
from tests.wrong import Asking, same
from tosstrees.errors import InvalidMachine, InvalidPair
from tosstrees.machines import alike, folded, is_machine

ROWS = short_rows(5)
SMALL = (
    all_machines(1, 1), all_machines(2, 1), all_machines(1, 2), all_machines(2, 2)[::5])
SOME = [some_machine(seed, 2, 12, share) for seed, share in enumerate((10, 20, 30, 50))]
PAIR_FOLDED = (1, (TO, 0), (((IS, 0), (TO, 0)),))


def line(states, last, n=2):
    """Each state leads on to the next one or back to the first, the last one to what is told."""
    return (n, (TO, 0), tuple(((TO, k + 1), (TO, 0)) for k in range(states - 1)) + (last,))


def first_unlike(one, other):
    """The first of the short rows that leads two machines to unlike ends, or None."""
    return next((row for row in ROWS if thing_of(one, row) != thing_of(other, row)), None)


class Alike(Asking, unittest.TestCase):
    def both_ways(self, expected, one, other):
        self.tells(expected, alike, one=one, other=other)
        self.tells(expected, alike, one=other, other=one)

    def test_a_machine_is_like_itself(self):
        for machine in list(ENDING + NOT_ENDING) + SOME:
            self.tells(None, alike, one=machine, other=machine)

    def test_ordinary_ones(self):
        for one, other, expected in (
                (PAIR, STATES_TWICE, (0,)), (PAIR, COIN, (1,)),
                (COIN, STATE_BESIDE, (0,)), (COIN, THING_BESIDE_STATES, ()),
                (CROOKED, COIN, (0,)), (CROOKED, STATE_BESIDE, (0,)),
                (ENDLESS_PAIR, COIN, (0,)), (ENDLESS, FIRST_THING, ()),
                (ENDLESS, PAIR_FOLDED, (0,)), (PERHAPS_ENDLESS, PAIR, (1, 0)),
                (LATE_ENDLESS, THREE, (0,)),
                ((3, (IS, 0), ()), (3, (IS, 0), (((TO, 0), (IS, 1)),)), None),
                (LAST_THING, (3, (IS, 1), ()), ()), (LAST_THING, THREE, ())):
            self.both_ways(expected, one, other)

    def test_all_small_machines(self):
        for family in SMALL:
            told = [things_of(machine, ROWS) for machine in family]
            for (one, mine), (other, yours) in itertools.product(list(zip(family, told)), repeat=2):
                expected = None if mine == yours else first_unlike(one, other)
                self.assertEqual(alike(one, other), expected, (one, other))

    def test_machines_in_other_words(self):
        for seed, machine in enumerate(list(ENDING + NOT_ENDING) + SOME):
            if machine[2]:
                other = scattered(machine, 3, seed)
                self.both_ways(None, machine, other)
                self.both_ways(None, scattered(machine, 2, seed + 9), other)

    def test_machines_that_differ_only_far_down(self):
        for states in (2, 3, 50, 180):
            one, other = line(states, ((IS, 0), (IS, 1))), line(states, ((IS, 0), (TO, 0)))
            self.both_ways((0,) * (states - 1) + (1,), one, other)
            self.both_ways((0,) * states, one, line(states, ((IS, 1), (IS, 0))))
            self.both_ways(None, one, line(states, ((IS, 0), (IS, 1))))

    def test_rounds_of_unlike_lengths(self):
        one = (1, (TO, 0), tuple(((TO, (k + 1) % 12), (IS, 0)) for k in range(12)))
        other = (1, (TO, 0), tuple(((TO, (k + 1) % 13), (IS, 0)) for k in range(13)))
        self.both_ways(None, one, other)
        last = (1, (TO, 0), other[2][:-1] + (((IS, 0), (TO, 0)),))
        self.both_ways((0,) * 13, one, last)
        rows = tuple(((TO, (k + 1) % 12), (TO, 0) if k == 11 else (IS, 0)) for k in range(12))
        more = tuple(((TO, (k + 1) % 13), (TO, 0) if k == 11 else (IS, 0)) for k in range(13))
        self.both_ways((0,) * 23 + (1,), (1, (TO, 0), rows), (1, (TO, 0), more))

    def test_the_first_of_the_shortest_rows_is_told(self):
        deep = (1, (TO, 0), (((TO, 1), (TO, 2)), ((TO, 3), (TO, 3)), ((TO, 3), (IS, 0)),
                             ((TO, 3), (TO, 3))))
        self.both_ways((1, 1), deep, ENDLESS)
        wide = (1, (TO, 0), (((TO, 1), (TO, 1)), ((TO, 0), (IS, 0))))
        self.both_ways((0, 1), wide, ENDLESS)
        self.both_ways((0, 1), wide, deep)

    def test_machines_of_180_states(self):
        for seed in range(4):
            machine = some_machine(seed, 40, 60, 10)
            other = scattered(machine, 3, seed)
            self.assertEqual(len(other[2]), 180)
            self.both_ways(None, machine, other)
            self.both_ways(None, scattered(machine, 3, seed + 20), other)

    def test_a_place_that_is_changed(self):
        for at, side in itertools.product(range(len(SIX[2])), range(2)):
            rows = [list(row) for row in SIX[2]]
            rows[at][side] = (IS, 5) if rows[at][side] != (IS, 5) else (IS, 4)
            other = (6, (TO, 0), tuple(tuple(row) for row in rows))
            self.both_ways(first_unlike(SIX, other), SIX, other)

    def test_not_as_many_things(self):
        for one, other in itertools.permutations((FIRST_THING, PAIR, THREE, SIX, ENDLESS), 2):
            if one[0] != other[0]:
                with self.assertRaises(InvalidPair) as caught:
                    alike(one, other)
                self.assertTrue(same(caught.exception.value, (one[0], other[0])))
                with self.assertRaises(InvalidPair) as caught:
                    alike(other=other, one=one)
                self.assertTrue(same(caught.exception.value, (one[0], other[0])))

    def test_no_machines(self):
        for wrong in NOT_MACHINES:
            for right in (FIRST_THING, THREE):
                self.fails(InvalidMachine, wrong, alike, one=wrong, other=right)
                self.fails(InvalidMachine, wrong, alike, one=right, other=wrong)

    def test_two_that_are_no_machines(self):
        for one, other in itertools.product(NOT_MACHINES[::6], NOT_MACHINES[::7]):
            self.fails(InvalidMachine, one, alike, one=one, other=other)


class Folded(Asking, unittest.TestCase):
    def is_folded(self, machine):
        """Whether begin leads to all states, all unlike and numbered as they are met."""
        n, _, rows = machine
        if met_breadth_first(machine) != list(range(len(rows))):
            return False
        told = [things_of((n, (TO, state), rows), ROWS) for state in range(len(rows))]
        return len(set(told)) == len(told)

    def test_ordinary_ones(self):
        for machine, expected in (
                (PAIR, PAIR), (THREE, THREE), (COIN, COIN), (SIX, SIX), (FIRST_THING, FIRST_THING),
                (LAST_THING, LAST_THING), (THING_BESIDE_STATES, (2, (IS, 1), ())),
                (CROOKED, (2, (TO, 0), (((TO, 1), (TO, 2)), ((TO, 0), (IS, 0)), ((IS, 1), (TO, 0))))),
                (STATE_BESIDE, (2, (TO, 0), (((IS, 1), (IS, 0)),))),
                (STATES_TWICE, (2, (TO, 0), (((TO, 1), (TO, 1)), ((IS, 0), (TO, 0))))),
                (ENDLESS, ENDLESS), (ENDLESS_PAIR, (2, (TO, 0), (((TO, 0), (TO, 0)),))),
                (PERHAPS_ENDLESS, PERHAPS_ENDLESS),
                (LATE_ENDLESS, (3, (TO, 0), (((IS, 0), (TO, 1)), ((IS, 2), (TO, 2)),
                                             ((TO, 2), (TO, 2)))))):
            self.tells(expected, folded, machine=machine)

    def test_all_small_machines(self):
        for family in SMALL:
            kinds = {}
            for machine in family:
                found = self.answer(folded, machine=machine)
                told = things_of(machine, ROWS)
                self.assertTrue(is_machine(found))
                self.assertEqual(things_of(found, ROWS), told)
                self.assertTrue(self.is_folded(found), machine)
                self.assertEqual(kinds.setdefault(told, found), found)

    def test_machines_in_other_words(self):
        for seed, machine in enumerate(list(ENDING + NOT_ENDING) + SOME):
            if machine[2]:
                found = self.answer(folded, machine=machine)
                for many in (1, 2, 3):
                    other = scattered(machine, many, seed)
                    self.tells(found, folded, machine=other)

    def test_a_folded_machine_stays_as_it_is(self):
        for machine in list(ENDING + NOT_ENDING) + SOME:
            found = folded(machine)
            self.tells(found, folded, machine=found)
            self.tells(None, alike, one=found, other=machine)

    def test_machines_of_180_states(self):
        for seed in range(3):
            machine = some_machine(seed, 40, 60, 10)
            found = folded(machine)
            self.tells(found, folded, machine=scattered(machine, 3, seed))
            self.assertEqual(met_breadth_first(found), list(range(len(found[2]))))
        long = line(180, ((IS, 0), (IS, 1)))
        self.tells(long, folded, machine=long)

    def test_states_that_differ_only_far_down(self):
        rows = tuple(((TO, k + 1), (TO, 0)) for k in range(89))
        other = tuple(((TO, k + 91), (TO, 0)) for k in range(89))
        begin = (((TO, 0), (TO, 90)),)
        machine = (2, (TO, 180), rows + (((IS, 0), (IS, 1)),) + other + (((IS, 0), (IS, 1)),) + begin)
        self.assertEqual(len(folded(machine)[2]), 91)
        unlike = (2, (TO, 180), rows + (((IS, 0), (IS, 1)),) + other + (((IS, 1), (IS, 1)),) + begin)
        self.assertEqual(len(folded(unlike)[2]), 181)

    def test_kinds_of_the_answer(self):
        for machine in list(ENDING + NOT_ENDING) + SOME:
            found = self.answer(folded, machine=machine)
            self.assertIs(is_machine(found), True)
            self.assertEqual(found[0], machine[0])

    def test_no_machine(self):
        for wrong in NOT_MACHINES:
            self.fails(InvalidMachine, wrong, folded, machine=wrong)


if __name__ == "__main__":
    unittest.main()
