"""Tables of cells: by the document's words with fractions, and all groups gone through."""

import itertools
import unittest
from fractions import Fraction

from tests.samples import (
    FEW_SHARES, HALVES, LARGE_SHARES, ONE, SIXTHS, SIXTIETHS, THIRDS, of_weights)
from tests.told import TABLES
from tests.wrong import (
    NOT_FROM_1, NOT_NUMBERS, NOT_SHARES, NUMBERS_OUTSIDE, Asking, as_fractions, as_pair,
    is_plain_number)
from tosstrees.cells import fewest_cells, groups, is_cell, is_table, shares_of_table, table_for
from tosstrees.errors import InvalidNumber, InvalidShares, InvalidTable, NoTable

WHOLE = (1, 1)
CELLS = ((0, WHOLE, 0), (2, WHOLE, 2), (0, (1, 2), 1), (1, (1, 2), 0), (2, (59, 60), 0),
         (1, (1, 10 ** 30), 2), (0, (10 ** 30 - 1, 10 ** 30), 2))
NO_TRIPLES = (
    None, True, False, 0, 1, "", "abc", "0 1 0", b"abc", (), [], {}, object, (0,), (0, WHOLE),
    (0, WHOLE, 0, 0), [0, WHOLE, 0], [0, (1, 2), 1], {0: 1, 1: 2, 2: 3}, ((0, WHOLE, 0),),
    (WHOLE, 0, 0), (0, 0, WHOLE))
NO_THINGS = tuple(
    cell for wrong in (3, 4, -1, 10 ** 30, True, False, None, "0", b"0", 0.0, (0,), [0], {}, object)
    for cell in ((wrong, (1, 2), 0), (1, (1, 2), wrong), (wrong, WHOLE, wrong), (wrong, (1, 2), wrong)))
NO_BARS = tuple((0, bar, 1) for bar in NOT_NUMBERS + NUMBERS_OUTSIDE + ((0, 1),))
NO_BARS += tuple((0, bar, 0) for bar in NOT_NUMBERS + NUMBERS_OUTSIDE + ((0, 1),))
UNLIKE_BARS = (
    (0, WHOLE, 1), (1, WHOLE, 0), (2, WHOLE, 1), (0, (1, 2), 0), (2, (59, 60), 2), (1, (1, 10 ** 30), 1))
NOT_CELLS = NO_TRIPLES + NO_THINGS + NO_BARS + UNLIKE_BARS
NO_TUPLES = (
    None, True, False, 0, 1, "", "abc", b"abc", (), [], {}, object, [(0, WHOLE, 0)], (0, WHOLE, 0),
    (0, (1, 2), 1), {(0, WHOLE, 0)}, {(0, WHOLE, 0): 1}, (((0, WHOLE, 0),),), range(3))
NOT_TABLES = (NO_TUPLES + tuple((cell,) for cell in NOT_CELLS)
              + tuple(((0, (1, 3), 2), cell) for cell in NOT_CELLS[::3])
              + tuple((cell, (1, WHOLE, 1)) for cell in NOT_CELLS[::3]))
SAMPLES = FEW_SHARES[::2] + LARGE_SHARES + [ONE, HALVES, THIRDS, SIXTHS, SIXTIETHS]


def all_groups(things):
    """All groups that have some things just once, by putting the last one to each group or alone."""
    if not things:
        return [()]
    found = []
    for told in all_groups(things[:-1]):
        found.append(told + ((things[-1],),))
        for k, group in enumerate(told):
            found.append(told[:k] + (group + (things[-1],),) + told[k + 1:])
    return [tuple(sorted(told)) for told in found]


def groups_by_words(shares, m):
    """The first, as tuples compare, of all groups that suit."""
    parts = as_fractions(shares)
    suiting = []
    for told in all_groups(tuple(range(len(shares)))):
        wholes = [m * sum(parts[thing] for thing in group) for group in told]
        if all(whole.denominator == 1 and whole >= len(group) - 1 for whole, group in zip(wholes, told)):
            suiting.append(told)
    return min(suiting, default=None)


def table_by_words(shares, m):
    """The table of the document, cell by cell."""
    left = [m * share for share in as_fractions(shares)]
    cells = []
    for group in groups_by_words(shares, m):
        while any(left[thing] for thing in group):
            least = min(left[thing] for thing in group if left[thing] > 0)
            one = [thing for thing in group if left[thing] == least][0]
            if least >= 1:
                cells.append((one, WHOLE, one))
                left[one] -= 1
                continue
            most = max(left[thing] for thing in group if thing != one)
            other = [thing for thing in group if thing != one and left[thing] == most][0]
            cells.append((one, as_pair(least), other))
            left[one] = 0
            left[other] -= 1 - least
    return tuple(cells)


def drawn_by_cells(n, table):
    found = [Fraction(0)] * n
    for one, bar, other in table:
        found[one] += Fraction(*bar) / len(table)
        found[other] += (1 - Fraction(*bar)) / len(table)
    return found


class CellsCase(Asking, unittest.TestCase):
    def wrong_count(self, call, name, **more):
        for wrong in NOT_FROM_1:
            self.fails(InvalidNumber, wrong, call, **{**more, name: wrong})

    def wrong_shares(self, call, **more):
        for wrong in NOT_SHARES:
            self.fails(InvalidShares, wrong, call, shares=wrong, **more)


class IsCell(CellsCase):
    def test_cells(self):
        for told in CELLS:
            for n in (3, 4, 40):
                self.tells(True, is_cell, n=n, told=told)
        self.tells(True, is_cell, n=1, told=(0, WHOLE, 0))
        self.tells(True, is_cell, n=10 ** 30, told=(10 ** 30 - 1, (1, 2), 0))

    def test_things_that_are_the_same_and_others(self):
        for one, other in itertools.product(range(3), repeat=2):
            for bar in (WHOLE, (1, 2), (1, 60), (59, 60)):
                self.tells((one == other) == (bar == WHOLE), is_cell, n=3, told=(one, bar, other))

    def test_no_triple(self):
        for told in NO_TRIPLES:
            self.tells(False, is_cell, n=3, told=told)

    def test_no_things(self):
        for told in NO_THINGS:
            self.tells(False, is_cell, n=3, told=told)
        for n, told in itertools.product((1, 2), CELLS):
            self.tells(max(told[0], told[2]) < n, is_cell, n=n, told=told)

    def test_no_bars(self):
        for told in NO_BARS + UNLIKE_BARS:
            self.tells(False, is_cell, n=3, told=told)

    def test_no_number_of_things(self):
        for told in CELLS[:2] + NOT_CELLS[::9]:
            self.wrong_count(is_cell, "n", n=0, told=told)


class IsTable(CellsCase):
    def test_tables(self):
        for told in (CELLS, CELLS[:1], CELLS[3:4], CELLS * 9, CELLS[::-1]):
            self.tells(True, is_table, n=3, told=told)
        self.tells(True, is_table, n=1, told=((0, WHOLE, 0),) * 60)
        self.tells(False, is_table, n=2, told=((0, WHOLE, 1),))

    def test_read_ones(self):
        for _, told in TABLES:
            self.tells(True, is_table, n=10 ** 31, told=told)

    def test_no_tables(self):
        for told in NOT_TABLES:
            self.tells(False, is_table, n=3, told=told)

    def test_each_cell_counts(self):
        for k, wrong in itertools.product(range(len(CELLS)), ((3, WHOLE, 3), (0, WHOLE, 1), None)):
            self.tells(False, is_table, n=3, told=CELLS[:k] + (wrong,) + CELLS[k + 1:])

    def test_no_number_of_things(self):
        for told in (CELLS, (), None, [(0, WHOLE, 0)]):
            self.wrong_count(is_table, "n", n=0, told=told)


class SharesOfTable(CellsCase):
    def test_ordinary_ones(self):
        for n, table, expected in (
                (1, ((0, WHOLE, 0),), ((1, 1),)), (1, ((0, WHOLE, 0),) * 7, ((1, 1),)),
                (3, ((0, (2, 3), 1), (1, (1, 3), 2)), THIRDS), (2, ((0, (1, 2), 1),), HALVES),
                (2, ((1, (1, 3), 0),), ((2, 3), (1, 3))), (2, ((0, WHOLE, 0), (1, WHOLE, 1)), HALVES)):
            self.tells(expected, shares_of_table, n=n, table=table)

    def test_things_of_share_0(self):
        for n, table, expected in (
                (3, ((0, WHOLE, 0),), ((1, 1), (0, 1), (0, 1))),
                (4, ((3, (1, 2), 1),), ((0, 1), (1, 2), (0, 1), (1, 2))),
                (3, ((2, WHOLE, 2), (0, (1, 2), 2)), ((1, 4), (0, 1), (3, 4)))):
            self.tells(expected, shares_of_table, n=n, table=table)

    def test_all_tables_of_two_cells(self):
        bars = ((1, 2), (1, 3), (2, 3), (1, 60))
        cells = [cell for cell in itertools.product(range(3), (*bars, WHOLE), range(3)) if is_cell(3, cell)]
        for table in itertools.product(cells, repeat=2):
            found = shares_of_table(3, table)
            self.assertTrue(all(is_plain_number(number) for number in found), found)
            self.assertEqual(as_fractions(found), drawn_by_cells(3, table), table)

    def test_sixty_cells(self):
        table = tuple((k % 40, (k + 1, 61), (k + 7) % 40) for k in range(60))
        found = self.answer(shares_of_table, n=40, table=table)
        self.assertEqual(as_fractions(found), drawn_by_cells(40, table))
        self.assertEqual(sum(as_fractions(found)), 1)

    def test_wrong_inputs(self):
        for wrong in NOT_TABLES:
            self.fails(InvalidTable, wrong, shares_of_table, n=3, table=wrong)
        for table in (CELLS, (), None, ((0, WHOLE, 1),)):
            self.wrong_count(shares_of_table, "n", n=0, table=table)
        self.fails(InvalidTable, CELLS, shares_of_table, n=2, table=CELLS)


class Groups(CellsCase):
    def test_ordinary_ones(self):
        for shares, m, expected in (
                (ONE, 1, ((0,),)), (ONE, 60, ((0,),)), (HALVES, 1, ((0, 1),)), (HALVES, 2, ((0,), (1,))),
                (HALVES, 3, ((0, 1),)), (THIRDS, 2, ((0, 1, 2),)), (THIRDS, 1, None),
                (THIRDS, 3, ((0,), (1,), (2,))), (THIRDS, 4, ((0, 1, 2),)), (SIXTHS, 4, ((0, 1, 2), (3, 4, 5))),
                (SIXTHS, 3, ((0, 1), (2, 3), (4, 5))), (SIXTHS, 2, None), (SIXTHS, 5, (tuple(range(6)),)),
                (of_weights((1, 2, 3)), 2, ((0, 1), (2,))), (of_weights((2, 1, 2, 1)), 2, ((0, 1), (2, 3))),
                (of_weights((1, 1, 2, 2)), 2, ((0, 2), (1, 3))), (of_weights((1, 3)), 60, ((0,), (1,)))):
            self.tells(expected, groups, shares=shares, m=m)

    def test_against_all_groups(self):
        for shares in [told for told in SAMPLES if len(told) <= 5]:
            for m in (1, 2, 3, 4, 5, 6, 7, 8, 10, 12, 15, 30, 59, 60):
                found = groups(shares, m)
                self.assertEqual(found, groups_by_words(shares, m), (shares, m))

    def test_of_six_things(self):
        for shares in [told for told in SAMPLES if len(told) == 6]:
            for m in range(1, 13):
                self.tells(groups_by_words(shares, m), groups, shares=shares, m=m)

    def test_kinds_of_the_answer(self):
        for shares in SAMPLES[::5]:
            found = self.answer(groups, shares=shares, m=len(shares) - 1 or 1)
            self.assertIs(type(found), tuple)
            self.assertEqual({type(group) for group in found}, {tuple})
            self.assertEqual(sorted(sum(found, ())), list(range(len(shares))))

    def test_wrong_inputs(self):
        self.wrong_shares(groups, m=2)
        for shares in (ONE, THIRDS):
            self.wrong_count(groups, "m", shares=shares, m=0)
        for shares, m in itertools.product(NOT_SHARES[::4], NOT_FROM_1):
            self.fails(InvalidShares, shares, groups, shares=shares, m=m)


class FewestCells(CellsCase):
    def test_ordinary_ones(self):
        for shares, expected in (
                (ONE, 1), (HALVES, 1), (THIRDS, 2), (SIXTHS, 3), (((1, 2), (1, 4), (1, 4)), 2),
                (((1, 60), (59, 60)), 1), (of_weights((1,) * 5), 4), (of_weights((1, 2, 3)), 2),
                (of_weights((1, 1, 2, 2)), 2), (of_weights((1, 2, 4, 8)), 3)):
            self.tells(expected, fewest_cells, shares=shares)

    def test_against_all_groups(self):
        for shares in [told for told in SAMPLES if len(told) <= 5]:
            expected = next(m for m in itertools.count(1) if groups_by_words(shares, m) is not None)
            self.tells(expected, fewest_cells, shares=shares)

    def test_things_that_need_one_less_cell(self):
        for weights in ((1, 2), (1, 3, 7), (1, 5, 11, 13), (1, 2, 4, 8, 16), (1, 2, 4, 8, 16, 28),
                        (1, 3, 5, 7, 11, 32)):
            self.tells(len(weights) - 1, fewest_cells, shares=of_weights(weights))

    def test_never_more(self):
        for shares in SAMPLES:
            self.assertLessEqual(fewest_cells(shares), max(len(shares) - 1, 1), shares)

    def test_no_shares(self):
        self.wrong_shares(fewest_cells)


class TableFor(CellsCase):
    def test_ordinary_ones(self):
        for shares, m, expected in (
                (ONE, 1, ((0, WHOLE, 0),)), (ONE, 3, ((0, WHOLE, 0),) * 3),
                (HALVES, 1, ((0, (1, 2), 1),)), (HALVES, 2, ((0, WHOLE, 0), (1, WHOLE, 1))),
                (THIRDS, 2, ((0, (2, 3), 1), (1, (1, 3), 2))),
                (HALVES, 3, ((0, WHOLE, 0), (0, (1, 2), 1), (1, WHOLE, 1))),
                (of_weights((1, 2, 3)), 2, ((0, (1, 3), 1), (2, WHOLE, 2))),
                (of_weights((1, 1, 2, 2)), 2, ((0, (1, 3), 2), (1, (1, 3), 3))),
                (of_weights((3, 1, 1)), 2, ((1, (2, 5), 0), (2, (2, 5), 0)))):
            self.tells(expected, table_for, shares=shares, m=m)

    def test_cell_by_cell(self):
        for shares in [told for told in SAMPLES if len(told) <= 5]:
            for m in (1, 2, 3, 4, 5, 8, 12, 60):
                self.is_by_words(shares, m)
        for shares in [told for told in SAMPLES if len(told) == 6]:
            for m in (3, 5, 7):
                self.is_by_words(shares, m)

    def is_by_words(self, shares, m):
        if groups_by_words(shares, m) is None:
            self.fails(NoTable, m, table_for, shares=shares, m=m)
            return
        table = table_for(shares, m)
        self.assertEqual(table, table_by_words(shares, m), (shares, m))
        self.assertEqual(len(table), m)
        self.assertIs(is_table(len(shares), table), True)
        self.assertEqual(shares_of_table(len(shares), table), shares)

    def test_the_most_cells(self):
        for shares in (SIXTIETHS, of_weights((1, 59)), of_weights((10,) * 6), ONE):
            self.tells(table_by_words(shares, 60), table_for, shares=shares, m=60)

    def test_no_table(self):
        for shares, m in ((THIRDS, 1), (SIXTHS, 2), (SIXTHS, 1), (of_weights((1, 2, 4, 8)), 2)):
            self.fails(NoTable, m, table_for, shares=shares, m=m)

    def test_wrong_inputs(self):
        self.wrong_shares(table_for, m=1)
        for shares in (ONE, THIRDS):
            self.wrong_count(table_for, "m", shares=shares, m=0)
        for shares, m in itertools.product(NOT_SHARES[::4], NOT_FROM_1):
            self.fails(InvalidShares, shares, table_for, shares=shares, m=m)


if __name__ == "__main__":
    unittest.main()
