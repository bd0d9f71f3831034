"""Readers of crooked coins: by the document's words, and by the chances at some shares of the coin."""

import itertools
import random
import unittest
from fractions import Fraction

from tests.wrong import NOT_FROM_1, NOT_NUMBERS, NUMBERS_OUTSIDE, Asking, as_pair, is_plain_number
from tosstrees.crooked import best, is_fair, is_reader, mean_out, most, put_out
from tosstrees.errors import InvalidNumber, InvalidReader, InvalidRow

NOTHING = ((), ())
NEUMANN = ((), (0,), (1,), ())
LONG = (0, 1) * 10
FAIR = (
    (1, NOTHING), (2, NEUMANN), (2, ((), (1,), (0,), ())), (2, ((),) * 4), (3, ((),) * 8),
    (3, ((), (0,), (1,), (0,), (), (1,), (), ())), (3, ((), (0,), (1,), (1,), (), (0,), (), ())),
    (4, ((), (0, 0), (0, 1), (), (1, 0), (0,), (1,), (), (1, 1), (), (), (), (), (), (), ())))
UNFAIR = (
    (1, ((), (0,))), (1, ((0,), (0,))), (1, ((0,), (1,))), (1, (LONG, ())), (2, ((), (0,), (), (1,))),
    (2, ((), (0,), (0,), ())), (2, ((), (0,), (), ())), (2, ((0,), (), (), (1,))),
    (2, ((), (0, 0), (1, 1), ())), (2, ((), (0,), (1, 0), ())), (2, ((0,), (0,), (1,), (1,))),
    (3, ((), (0,), (0,), (0,), (1,), (1,), (1,), ())), (3, ((), (0,), (0,), (), (1,), (), (), ())),
    (4, ((), (0, 0), (0, 1), (), (1, 0), (), (), (), (1, 0), (), (), (), (), (), (), ())))
NO_READERS = (
    None, True, False, 0, 2, "", "ab", b"ab", 0.5, (), [], {}, object, ((),), ((), (), ()), ((),) * 8,
    [(), (0,), (1,), ()], ([], (), (), ()), ((), [0], [1], ()), ((), (0,), (1,), []), ((), 0, 1, ()),
    ((), (0,), (1,), None), ("", "0", "1", ""), ((), (2,), (1,), ()), ((), (-1,), (1,), ()),
    ((), (True,), (False,), ()), ((), (0, None), (1,), ()), ((), ((0,),), (1,), ()), ((), (0.0,), (1,), ()),
    ((), ("0",), (1,), ()), {(): 1, (0,): 2, (1,): 3, (1, 1): 4}, NEUMANN[:3], NEUMANN + ((),), NOTHING)
NOT_ROWS = (
    None, True, False, 0, 1, "", "01", b"01", 0.5, (), [], [0], [0, 1], {}, {0: 1}, {0, 1}, range(2), object,
    (2,), (-1,), (0, 2), (True,), (0, False), (None,), (0, None), ("0",), (0.0,), ((0,),), ([0], 1), (10 ** 30,))
NOT_SHARES_OF_A_COIN = NOT_NUMBERS + NUMBERS_OUTSIDE + ((0, 1), (1, 1), (60, 1), (-1, 60))
COINS = ((1, 2), (1, 3), (2, 3), (1, 60), (59, 60), (7, 12), (30, 59))


def rows_of(n):
    return list(itertools.product((0, 1), repeat=n))


def best_by_words(n):
    """The best reader of the document, as a dict by rows."""
    found = {}
    for h in range(n + 1):
        rows = [row for row in rows_of(n) if sum(row) == h]
        while rows:
            length = 1
            while 2 * length <= len(rows):
                length *= 2
            stretch, rows = rows[:length], rows[length:]
            figures = [row for row in rows_of(length.bit_length() - 1)]
            found.update(zip(stretch, figures))
    return found


def chance_of(row, share):
    ones = sum(row)
    return share ** ones * (1 - share) ** (len(row) - ones)


def is_fair_by_chances(n, told):
    """Whether the outputs of each length come as often, at more shares than the chances' degree."""
    for k in range(1, n + 2):
        chances = {}
        for row, output in zip(rows_of(n), told):
            chances[output] = chances.get(output, 0) + chance_of(row, Fraction(k, n + 2))
        for length in {len(output) for output in chances}:
            if len({chances.get(output, 0) for output in rows_of(length)}) > 1:
                return False
    return True


def some_readers(n, many):
    """Readers of which some are fair: the best one, and such with a few outputs changed."""
    pick = random.Random(n)
    outputs = [row for length in range(4) for row in rows_of(length)]
    found = []
    for k in range(many):
        reader = list(best_by_words(n)[row] for row in rows_of(n))
        for _ in range(k % 4):
            one, other = pick.randrange(2 ** n), pick.randrange(2 ** n)
            reader[one], reader[other] = reader[other], reader[one]
        for _ in range(k % 3):
            reader[pick.randrange(2 ** n)] = pick.choice(outputs)
        found.append(tuple(reader))
    return found


class CrookedCase(Asking, unittest.TestCase):
    def wrong_count(self, call, **more):
        for wrong in NOT_FROM_1:
            self.fails(InvalidNumber, wrong, call, n=wrong, **more)


class IsReader(CrookedCase):
    def test_readers(self):
        for n, told in FAIR + UNFAIR:
            self.tells(True, is_reader, n=n, told=told)
        for n in range(1, 9):
            self.tells(True, is_reader, n=n, told=(LONG, *((),) * (2 ** n - 1)))

    def test_of_one_throw(self):
        for told in itertools.product(((), (0,), (1,), (1, 1), LONG), repeat=2):
            self.tells(True, is_reader, n=1, told=told)

    def test_no_readers(self):
        for told in NO_READERS:
            self.tells(False, is_reader, n=2, told=told)

    def test_another_number_of_throws(self):
        for n, told in FAIR + UNFAIR:
            for other in range(1, 9):
                self.tells(other == n, is_reader, n=other, told=told)

    def test_each_output_counts(self):
        for k, wrong in itertools.product(range(8), ([], None, (2,), (True,), "0")):
            told = [()] * 8
            told[k] = wrong
            self.tells(False, is_reader, n=3, told=tuple(told))

    def test_no_number_of_throws(self):
        for told in (NOTHING, NEUMANN, None, ()):
            self.wrong_count(is_reader, told=told)


class IsFair(CrookedCase):
    def test_fair_ones(self):
        for n, told in FAIR:
            self.tells(True, is_fair, n=n, told=told)
            self.assertTrue(is_fair_by_chances(n, told))

    def test_unfair_ones(self):
        for n, told in UNFAIR:
            self.tells(False, is_fair, n=n, told=told)
            self.assertFalse(is_fair_by_chances(n, told))

    def test_best_ones(self):
        for n in range(1, 9):
            self.tells(True, is_fair, n=n, told=best(n))

    def test_one_place_changed(self):
        for n in (2, 3, 4, 8):
            told = best(n)
            for k, output in enumerate(told[::max(1, 2 ** n // 16)]):
                at = k * max(1, 2 ** n // 16)
                for wrong in (output + (0,), (1,) + output, output[1:] if output else LONG):
                    changed = told[:at] + (wrong,) + told[at + 1:]
                    self.tells(False, is_fair, n=n, told=changed)

    def test_all_readers_of_one_throw(self):
        outputs = [row for length in range(4) for row in rows_of(length)]
        for told in itertools.product(outputs, repeat=2):
            self.tells(told == NOTHING, is_fair, n=1, told=told)

    def test_all_readers_of_two_throws(self):
        outputs = [row for length in range(3) for row in rows_of(length)]
        found = [told for told in itertools.product(outputs, repeat=4) if is_fair(2, told)]
        expected = [told for told in itertools.product(outputs, repeat=4) if is_fair_by_chances(2, told)]
        self.assertEqual(found, expected)
        self.assertEqual(len(found), 3)

    def test_some_readers(self):
        for n in (3, 4, 5):
            readers = some_readers(n, 120)
            found = [is_fair(n, told) for told in readers]
            self.assertEqual(found, [is_fair_by_chances(n, told) for told in readers])
            self.assertEqual(set(found), {True, False})

    def test_rows_with_as_many_ones_may_change_places(self):
        for n in (3, 5, 8):
            by_row = dict(zip(rows_of(n), best(n)))
            turned = {row: by_row[row[::-1]] for row in rows_of(n)}
            self.tells(True, is_fair, n=n, told=tuple(turned[row] for row in rows_of(n)))

    def test_wrong_inputs(self):
        for wrong in NO_READERS:
            self.fails(InvalidReader, wrong, is_fair, n=2, told=wrong)
        for told in (NEUMANN, None, (), [()]):
            self.wrong_count(is_fair, told=told)


class Best(CrookedCase):
    def test_ordinary_ones(self):
        for n, expected in (
                (1, NOTHING), (2, NEUMANN), (3, ((), (0,), (1,), (0,), (), (1,), (), ())),
                (4, ((), (0, 0), (0, 1), (0, 0), (1, 0), (0, 1), (1, 0), (0, 0), (1, 1), (1, 1), (0,), (0, 1),
                     (1,), (1, 0), (1, 1), ()))):
            self.tells(expected, best, n=n)

    def test_by_words(self):
        for n in range(1, 9):
            told = best_by_words(n)
            self.tells(tuple(told[row] for row in rows_of(n)), best, n=n)

    def test_none_puts_out_more(self):
        outputs = [row for length in range(3) for row in rows_of(length)]
        for told in itertools.product(outputs, repeat=4):
            if is_fair(2, told):
                self.assertLessEqual(sum(len(output) for output in told), 2)
        self.assertEqual(sum(len(output) for output in best(2)), 2)

    def test_no_number_of_throws(self):
        self.wrong_count(best)


class PutOut(CrookedCase):
    def test_ordinary_ones(self):
        for row, expected in (
                ((0,), ()), ((1,), ()), ((0, 1), (0,)), ((1, 0), (1,)), ((1, 1), ()), ((0, 1, 1), (0,)),
                ((1, 0, 1), (1,)), ((1, 1, 0), ()), ((0, 0, 0, 1), (0, 0)), ((1, 0, 0, 0), (1, 1)),
                ((0, 0, 1, 1), (0, 0)), ((1, 0, 0, 1), (1, 1)), ((1, 0, 1, 0), (0,)), ((1, 1, 0, 0), (1,)),
                ((0,) * 12, ()), ((1,) * 12, ()), ((0,) * 11 + (1,), (0, 0, 0)), ((1,) + (0,) * 11, (1, 1)),
                ((0,) * 3 + (1,) + (0,) * 8, (0,) * 2), ((0,) * 6 + (1,) * 6, (0,) * 9)):
            self.tells(expected, put_out, row=row)

    def test_rows_of_12(self):
        for row, expected in best_by_words(12).items():
            self.assertEqual(put_out(row), expected, row)

    def test_shorter_rows(self):
        for n in range(1, 12):
            told = best_by_words(n)
            for row in rows_of(n)[::1 + n // 2]:
                self.tells(told[row], put_out, row=row)

    def test_no_rows(self):
        for wrong in NOT_ROWS:
            self.fails(InvalidRow, wrong, put_out, row=wrong)


class Most(CrookedCase):
    def test_ordinary_ones(self):
        for n, expected in (
                (1, (0, 0)), (2, (0, 2, 0)), (3, (0, 2, 2, 0)), (4, (0, 8, 10, 8, 0)),
                (5, (0, 8, 26, 26, 8, 0)), (8, (0, 24, 96, 248, 394, 248, 96, 24, 0))):
            self.tells(expected, most, n=n)

    def test_outputs_added_up(self):
        for n in range(1, 13):
            found = [0] * (n + 1)
            for row, output in best_by_words(n).items():
                found[sum(row)] += len(output)
            self.tells(tuple(found), most, n=n)

    def test_no_number_of_throws(self):
        self.wrong_count(most)


class MeanOut(CrookedCase):
    def test_ordinary_ones(self):
        for n, share, expected in (
                (1, (1, 2), (0, 1)), (2, (1, 2), (1, 2)), (2, (1, 3), (4, 9)), (2, (2, 3), (4, 9)),
                (3, (1, 2), (1, 2)), (3, (1, 3), (4, 9)), (4, (1, 2), (13, 8)), (2, (1, 60), (59, 1800)), (2, (59, 60), (59, 1800))):
            self.tells(expected, mean_out, n=n, share=share)

    def test_sums_over_rows(self):
        for n in range(1, 13):
            told = best_by_words(n)
            for share in COINS if n < 10 else COINS[-1:]:
                coin = Fraction(*share)
                lengths = [0] * (n + 1)
                for row, output in told.items():
                    lengths[sum(row)] += len(output)
                expected = sum(many * coin ** h * (1 - coin) ** (n - h) for h, many in enumerate(lengths))
                found = self.answer(mean_out, n=n, share=share)
                self.assertTrue(is_plain_number(found))
                self.assertEqual(Fraction(*found), expected)

    def test_a_share_and_its_other_side(self):
        for n, share in itertools.product(range(1, 13), COINS):
            other = as_pair(1 - Fraction(*share))
            self.assertEqual(mean_out(n, share), mean_out(n, other))

    def test_wrong_inputs(self):
        for wrong in NOT_SHARES_OF_A_COIN:
            for n in (1, 12):
                self.fails(InvalidNumber, wrong, mean_out, n=n, share=wrong)
        for share in ((1, 2),) + NOT_SHARES_OF_A_COIN:
            for wrong in NOT_FROM_1:
                self.fails(InvalidNumber, wrong, mean_out, n=wrong, share=share)


if __name__ == "__main__":
    unittest.main()
