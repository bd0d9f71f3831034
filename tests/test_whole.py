"""The whole program: what one file tells is handed to the others, and stays as it was told."""

import copy
import itertools
import math
import unittest
from fractions import Fraction

from tests.machinery import thing_of
from tests.samples import (
    FEW_SHARES, HALVES, LARGE_SHARES, ONE, SIXTHS, SIXTIETHS, THIRDS, of_weights)
from tests.wrong import as_fractions, same
from tosstrees.cells import fewest_cells, groups, is_table, shares_of_table, table_for
from tosstrees.consoles import Console
from tosstrees.crooked import best, is_fair, is_reader, mean_out, most, put_out
from tosstrees.dice import base_figures, die_mean, die_surely, fewest_dice, is_bounded, is_dice, row_draw
from tosstrees.figures import cost, figure, figures, number, rest
from tosstrees.machines import (
    alike, ends, folded, is_machine, leaves_of, machine_for, shares_of, walk)
from tosstrees.means import least_mean, mean, over, spread
from tosstrees.readers import (
    read_figures, read_leaves, read_machine, read_number, read_shares, read_table, read_tosses)
from tosstrees.rows import even_mean, many, saved
from tosstrees.shares import both, is_number, is_shares, parted, put_together, shares
from tosstrees.tails import least_tail, surely, tail, within
from tosstrees.texts import (
    show_figures, show_leaves, show_machine, show_number, show_shares, show_table, show_tosses)
from tosstrees.trees import drawn, is_least, is_leaves, knots, leaves, mean_of

SAMPLES = FEW_SHARES[::4] + LARGE_SHARES[::4] + [ONE, HALVES, THIRDS, SIXTHS, SIXTIETHS]
TOLD_SHARES = (
    both(THIRDS, HALVES), both(HALVES, ((1, 5), (4, 5))), parted(THIRDS, 1, of_weights((1, 4))),
    put_together(SIXTIETHS, (0, 3, 5)), parted(put_together(SIXTHS, (1, 2)), 0, HALVES), many(HALVES, 2),
    many(((1, 3), (2, 3)), 2), many(ONE, 3), shares([1, 2, 1]), shares((7, 13, 20)),
    shares_of(machine_for(SIXTIETHS)), drawn(leaves(LARGE_SHARES[3])), shares_of_table(3, table_for(THIRDS, 2)),
    read_shares("1/4 1/6 1/12 1/2"))


class Told(unittest.TestCase):
    def is_kept(self, told, before):
        self.assertTrue(same(told, before))

    def test_told_shares_are_shares(self):
        for told in TOLD_SHARES:
            self.assertIs(is_shares(told), True)
            whole = math.lcm(*[bottom for _, bottom in told])
            self.assertEqual(shares([top * (whole // bottom) for top, bottom in told]), told)

    def test_trees_machines_means_and_tails(self):
        for told in SAMPLES + list(TOLD_SHARES):
            tree, machine = leaves(told), machine_for(told)
            before = copy.deepcopy((told, tree, machine))
            self.assertEqual([is_leaves(tree), is_least(tree), is_machine(machine), ends(machine)], [True] * 4)
            self.assertEqual([drawn(tree), shares_of(machine), shares_of(folded(machine))], [told] * 3)
            self.assertEqual([mean_of(tree), mean(machine), die_mean(told, 2)], [least_mean(told)] * 3)
            self.assertEqual([over(machine), over(folded(machine))], [(0, 1)] * 2)
            self.assertEqual(spread(machine), spread(folded(machine)))
            self.assertEqual(sum(as_fractions(cost(share) for share in told)), Fraction(*least_mean(told)))
            self.assertEqual(surely(told), die_surely(told, 2))
            self.is_kept((told, tree, machine), before)

    def test_depth_by_depth(self):
        for told in SAMPLES + list(TOLD_SHARES):
            tree, machine = leaves(told), machine_for(told)
            for k in (0, 1, 2, 3, 9, 61, 300):
                chance = least_tail(told, k)
                self.assertIs(is_number(chance), True)
                self.assertEqual(tail(machine, k), chance)
                self.assertEqual(Fraction(knots(tree, k), 2 ** k), Fraction(*chance))
                self.assertEqual(sum(as_fractions(rest(share, k) for share in told)), knots(tree, k))
                self.assertEqual(leaves_of(machine, k), tuple(figure(share, k) for share in told))
                if chance[0] > 0:
                    self.assertLessEqual(within(told, chance), k)

    def test_tables(self):
        for told in SAMPLES + list(TOLD_SHARES):
            fewest = fewest_cells(told)
            for m in (fewest, max(len(told) - 1, 1), 60):
                table = table_for(told, m)
                before = copy.deepcopy(table)
                self.assertEqual((is_table(len(told), table), len(table)), (True, m))
                self.assertEqual(shares_of_table(len(told), table), told)
                self.assertEqual(read_table(show_table(table)), table)
                for group in groups(told, m):
                    self.assertEqual(m * as_fractions(put_together(told, group))[group[0]] % 1, 0)
                self.is_kept(table, before)
            self.assertIsNone(groups(told, fewest - 1) if fewest > 1 else None)

    def test_dice(self):
        for told, dice in itertools.product(SAMPLES + list(TOLD_SHARES), ((2, 3, 5), (6, 10), (4, 6, 20), ())):
            row = fewest_dice(told, dice)
            self.assertEqual([is_dice(dice), row is not None], [True, is_bounded(told, dice)])
            if row is not None:
                counts = row_draw(told, row)
                self.assertEqual(shares(counts), told)
                self.assertIs(is_dice(tuple(sorted(set(row)))), True)
                self.assertIs(is_bounded(told, tuple(sorted(set(row)))), True)

    def test_figures_of_told_numbers(self):
        for told in SAMPLES[::3] + list(TOLD_SHARES):
            for share in told:
                signs = figures(share)
                self.assertEqual([base_figures(share, 2), read_figures(show_figures(signs))], [signs] * 2)
                self.assertEqual([number(signs), read_number(show_number(share))], [share] * 2)

    def test_texts_there_and_back(self):
        for told in SAMPLES + list(TOLD_SHARES):
            tree, machine = leaves(told), machine_for(told)
            self.assertEqual(read_shares(show_shares(told)), told)
            self.assertEqual(read_leaves(show_leaves(tree)), tree)
            for one in (machine, folded(machine)):
                self.assertEqual(read_machine(show_machine(one)), one)
            for chance in (least_mean(told), mean(machine), spread(machine)):
                if len(show_number(chance)) <= 30:
                    self.assertEqual(read_number(show_number(chance)), chance)

    def test_readers(self):
        for n in range(1, 9):
            reader = best(n)
            self.assertEqual((is_reader(n, reader), is_fair(n, reader)), (True, True))
            self.assertEqual(sum(most(n)), sum(len(output) for output in reader))
            self.assertEqual(Fraction(*mean_out(n, (1, 2))), Fraction(sum(most(n)), 2 ** n))
            for output in reader:
                self.assertEqual(read_tosses(show_tosses(output)), output)

    def test_tosses_of_a_crooked_coin_draw_things(self):
        machine = machine_for(THIRDS)
        throws = [(0, 0, 1, 0), (1, 0, 0, 1), (0, 1, 1, 0), (1, 1, 1, 1), (0, 1, 0, 0)]
        tosses = sum([put_out(row) for row in throws], ())
        things, place = walk(machine, tosses)
        self.assertEqual((tosses, things, place), ((0, 1, 1, 1, 1, 0, 1, 0), (1, 2, 2), ("to", 0)))

    def test_a_told_row_of_tosses_tells_two_machines_from_each_other(self):
        machines = [machine_for(told) for told in SAMPLES + list(TOLD_SHARES) if len(told) == 3]
        for one, other in itertools.product(machines[::3], machines[::4]):
            tosses = alike(one, other)
            if tosses is None:
                self.assertEqual(shares_of(one), shares_of(other))
            else:
                self.assertNotEqual(thing_of(one, tosses), thing_of(other, tosses))
                for machine in (one, other):
                    thing = thing_of(machine, tosses)
                    drawn_last = walk(machine, tosses)[0][-1:]
                    self.assertEqual(drawn_last if walk(machine, tosses)[1] == machine[1] else (),
                                     () if thing is None else (thing,))

    def test_rows_of_things(self):
        for told, k in itertools.product((ONE, HALVES, THIRDS, of_weights((1, 3)), of_weights((2, 3))), (1, 2, 3)):
            rows = many(told, k)
            self.assertIs(is_shares(rows), True)
            gain = k * Fraction(*least_mean(told)) - Fraction(*least_mean(rows))
            self.assertEqual(Fraction(*saved(told, k)), gain)
            self.assertEqual(put_together(rows, tuple(range(len(rows) // len(told))))[0], told[0])
        self.assertEqual(even_mean(6), least_mean(both(THIRDS, HALVES)))

    def test_consoles(self):
        console = Console()
        for told in SAMPLES + list(TOLD_SHARES):
            machine = machine_for(told)
            console.order(f"for it {show_shares(told)}")
            self.assertEqual(console.machine("it"), machine)
            console.keep("mine", folded(machine))
            self.assertEqual(console.order("alike it mine"), "yes")
            self.assertEqual(read_shares(console.order("shares mine")), told)
            self.assertEqual(read_machine(console.order("show mine")), folded(machine))
            self.assertEqual(console.order("mean it"), show_number(least_mean(told)))
            self.assertEqual(console.order("tail it 9"), show_number(least_tail(told, 9)))
            things, place = walk(machine, (0, 1) * 20 if machine[2] else ())
            answer = console.order(f"walk it {show_tosses((0, 1) * 20 if machine[2] else ())}")
            words = " ".join(str(thing) for thing in things) or "-"
            self.assertEqual(answer, f"{words} : {'s' if place[0] == 'to' else 'i'}{place[1]}")

    def test_what_was_told_is_not_changed_by_what_comes_later(self):
        def all_told():
            machine = machine_for(SIXTIETHS)
            return [leaves(SIXTIETHS), machine, folded(machine), table_for(SIXTHS, 7), best(5), most(12),
                    base_figures((1, 7), 10), many(THIRDS, 2), fewest_dice(SIXTIETHS, (6, 10)), groups(SIXTHS, 4)]

        first = all_told()
        before = copy.deepcopy(first)
        console = Console()
        console.keep("it", first[1])
        console.order("folded it it")
        console.order("drop it")
        second = all_told()
        self.is_kept(first, before)
        self.is_kept(second, before)


if __name__ == "__main__":
    unittest.main()
