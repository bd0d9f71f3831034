"""Figures in base two: against long division and Python's own fractions."""

import itertools
import math
import unittest
from fractions import Fraction

from tests.sums import cost_of, division, value_of
from tests.wrong import (
    NOT_FROM_0, NOT_NUMBERS, NUMBERS_OUTSIDE, Asking, as_pair, is_plain_number)
from tosstrees.errors import InvalidFigures, InvalidNumber
from tosstrees.figures import cost, figure, figures, number, rest

NUMBERS = [(top, bottom) for bottom in range(1, 201) for top in range(bottom + 1)
           if math.gcd(top, bottom) == 1]
FEW = [one for one in NUMBERS if one[1] <= 24] + [(1, 128), (127, 128), (99, 200), (196, 197)]
WRONG_NUMBERS = NOT_NUMBERS + NUMBERS_OUTSIDE
NOT_SIGNS = (
    None, True, 0, 1, "", "01", b"01", [], [0, 1], {}, {0: 1}, {0, 1}, (2,), (-1,), (0, 2), (1, -1),
    (True,), (False,), (0, True), (0, False, 1), ("0",), ("1", 0), (None,), ((0,),), ([0],), (0.0,),
    (0, 1.0), (10 ** 40,), range(2), object)
MORE_THAN_1 = (
    ((1,), (1,)), ((1,), (0, 1)), ((1, 1), (0,)), ((), (1,)), ((), (1, 0)), ((), (1, 1)),
    ((1, 0), (1,)), ((1, 0, 0), (0, 1)), ((1,) + (0,) * 150 + (1,), (0,)), ((1,) + (0,) * 99, (1,)),
    ((1,), (0,) * 200 + (1,)), ((), (1,) + (0,) * 200))


def rows(most):
    return [row for k in range(most + 1) for row in itertools.product((0, 1), repeat=k)]


class FiguresCase(Asking, unittest.TestCase):
    def wrong_number(self, call, more):
        for wrong in WRONG_NUMBERS:
            self.fails(InvalidNumber, wrong, call, number=wrong, **more)

    def wrong_place(self, call):
        for right in ((0, 1), (1, 1), (1, 3)):
            for wrong in NOT_FROM_0:
                self.fails(InvalidNumber, wrong, call, number=right, k=wrong)

    def wrong_both(self, call):
        for wrong, k in itertools.product(WRONG_NUMBERS, NOT_FROM_0):
            self.fails(InvalidNumber, wrong, call, number=wrong, k=k)


class Figures(FiguresCase):
    def test_ordinary_ones(self):
        for told, expected in (
                ((0, 1), ((), (0,))), ((1, 1), ((1,), (0,))), ((1, 2), ((0, 1), (0,))),
                ((1, 4), ((0, 0, 1), (0,))), ((3, 4), ((0, 1, 1), (0,))),
                ((5, 8), ((0, 1, 0, 1), (0,))), ((1, 3), ((0,), (0, 1))), ((2, 3), ((), (0, 1))),
                ((1, 6), ((0, 0), (0, 1))), ((5, 6), ((0, 1), (1, 0))),
                ((1, 7), ((0,), (0, 0, 1))), ((4, 7), ((), (0, 1, 0)))):
            self.tells(expected, figures, number=told)

    def test_the_figures_are_those_of_long_division(self):
        for told in NUMBERS:
            ahead, again = figures(told)
            many = len(ahead) + 2 * len(again)
            self.assertEqual(list(ahead + again + again), division(told, many), told)
            self.assertEqual(value_of(ahead, again), Fraction(*told))

    def test_both_are_as_short_as_can_be(self):
        for told in NUMBERS:
            ahead, again = figures(told)
            self.assertGreater(len(again), 0)
            self.assertIn(0, again, told)
            self.assertFalse(ahead and ahead[-1] == again[-1], told)
            for k in range(1, len(again)):
                if len(again) % k == 0:
                    self.assertNotEqual(again[:k] * (len(again) // k), again, told)

    def test_long_rounds(self):
        for bottom in (101, 107, 131, 139, 149, 163, 173, 179, 181, 197):
            ahead, again = self.answer(figures, number=(1, bottom))
            self.assertEqual((len(ahead), len(again)), (1, bottom - 1))

    def test_kinds_of_the_answer(self):
        for told in FEW:
            found = self.answer(figures, number=told)
            self.assertEqual([type(found), type(found[0]), type(found[1])], [tuple] * 3)
            self.assertEqual({type(sign) for row in found for sign in row}, {int})

    def test_no_number_from_0_to_1(self):
        self.wrong_number(figures, {})


class Number(FiguresCase):
    def test_back_from_figures(self):
        for told in NUMBERS:
            self.assertEqual(number(figures(told)), told)

    def test_all_short_figures(self):
        for ahead, again in itertools.product(rows(5), rows(5)[1:]):
            value = value_of(ahead, again)
            if value <= 1:
                self.tells(as_pair(value), number, told=(ahead, again))
            else:
                told = (ahead, again)
                self.fails(InvalidFigures, told, number, told=told)

    def test_not_as_short_as_can_be(self):
        for told, expected in (
                (((0, 0), (0, 0)), (0, 1)), (((1, 0, 0), (0, 0)), (1, 1)), (((), (0,)), (0, 1)),
                (((0, 1, 0), (1, 0)), (2, 3)), (((0,), (1, 0)), (2, 3)),
                (((), (0, 1, 0, 1)), (2, 3)), (((0, 1), (0, 0, 0)), (1, 2))):
            self.tells(expected, number, told=told)

    def test_round_all_1(self):
        for told, expected in (
                (((0,), (1,)), (1, 1)), (((0, 0), (1, 1, 1)), (1, 2)), (((0, 1), (1,)), (1, 1)),
                (((0, 1, 0), (1, 1)), (3, 4)), (((0,) * 100, (1,)), (1, 2 ** 99))):
            self.tells(expected, number, told=told)

    def test_long_figures(self):
        for ahead, again in (
                ((0,) * 299, (1,)), ((0,), (0, 1) * 149 + (1,)), ((), (0,) + (1,) * 299),
                ((0, 1) * 75, (1, 0, 0) * 50), ((0,) * 150 + (1,), (0,) * 148 + (1,))):
            found = self.answer(number, told=(ahead, again))
            self.assertTrue(is_plain_number(found))
            self.assertEqual(found, as_pair(value_of(ahead, again)))

    def test_more_than_1(self):
        for told in MORE_THAN_1:
            self.fails(InvalidFigures, told, number, told=told)
        self.tells((1, 1), number, told=((1,), (0,) * 200))
        self.tells((1, 1), number, told=((1,) + (0,) * 150, (0, 0)))

    def test_no_pair_of_tuples(self):
        for wrong in (
                None, True, 0, 1, "", "01", b"01", (), [], {}, ((),), ((0,),), ((0,), (0,), (0,)),
                [(0,), (0,)], ((), ()), ((0,), ()), ((1,), ()), (0, 1), (0, (1,)), ((0,), 1), 0.5,
                {0: 1, 1: 0}, {(0,), (1,)}, object):
            self.fails(InvalidFigures, wrong, number, told=wrong)

    def test_no_tuples_of_0_and_1(self):
        for wrong in NOT_SIGNS:
            for told in ((wrong, (0,)), ((0,), wrong), (wrong, wrong), (wrong, ()), ((), wrong)):
                self.fails(InvalidFigures, told, number, told=told)


class Figure(FiguresCase):
    def test_each_figure(self):
        for told in NUMBERS:
            expected = division(told, 30)
            self.assertEqual([figure(told, k) for k in range(30)], expected, told)

    def test_each_figure_up_to_300(self):
        for told in FEW:
            for k, expected in enumerate(division(told, 301)):
                self.tells(expected, figure, number=told, k=k)

    def test_of_0_and_1(self):
        for k in (0, 1, 2, 300):
            self.tells(0, figure, number=(0, 1), k=k)
            self.tells(int(k == 0), figure, number=(1, 1), k=k)

    def test_wrong_inputs(self):
        self.wrong_number(figure, {"k": 0})
        self.wrong_number(figure, {"k": 300})
        self.wrong_place(figure)
        self.wrong_both(figure)


class Cost(FiguresCase):
    def test_ordinary_ones(self):
        for told, expected in (
                ((0, 1), (0, 1)), ((1, 1), (0, 1)), ((1, 2), (1, 2)), ((1, 4), (1, 2)),
                ((3, 4), (1, 1)), ((1, 3), (8, 9)), ((2, 3), (10, 9)), ((7, 8), (11, 8))):
            self.tells(expected, cost, number=told)

    def test_all_numbers(self):
        for told in NUMBERS:
            found = cost(told)
            self.assertTrue(is_plain_number(found), told)
            self.assertEqual(Fraction(*found), cost_of(*figures(told)), told)

    def test_twice_the_same(self):
        for told in FEW:
            self.answer(cost, number=told)

    def test_wrong_inputs(self):
        self.wrong_number(cost, {})


class Rest(FiguresCase):
    def test_ordinary_ones(self):
        for told, k, expected in (
                ((1, 3), 0, (1, 3)), ((1, 3), 1, (2, 3)), ((1, 3), 2, (1, 3)), ((1, 3), 3, (2, 3)),
                ((1, 6), 0, (1, 6)), ((1, 6), 1, (1, 3)), ((5, 12), 2, (2, 3)),
                ((3, 4), 0, (3, 4)), ((3, 4), 1, (1, 2)), ((3, 4), 2, (0, 1)), ((3, 4), 9, (0, 1))):
            self.tells(expected, rest, number=told, k=k)

    def test_of_0_and_1(self):
        for told, k in itertools.product(((0, 1), (1, 1)), (0, 1, 2, 300)):
            self.tells((0, 1), rest, number=told, k=k)

    def test_all_numbers(self):
        for told in NUMBERS:
            for k in (0, 1, 2, 3, 7, 8, 9, 299, 300):
                found = rest(told, k)
                self.assertTrue(is_plain_number(found), told)
                self.assertEqual(Fraction(*found), Fraction(*told) * 2 ** k % 1, (told, k))

    def test_the_rest_is_what_the_figures_leave(self):
        for told in FEW:
            for k in (0, 1, 5, 300):
                found = self.answer(rest, number=told, k=k)
                signs = division(told, k + 1)
                drawn = sum(Fraction(sign, 2 ** j) for j, sign in enumerate(signs))
                self.assertEqual((Fraction(*told) - drawn) * 2 ** k, Fraction(*found))

    def test_wrong_inputs(self):
        self.wrong_number(rest, {"k": 0})
        self.wrong_number(rest, {"k": 300})
        self.wrong_place(rest)
        self.wrong_both(rest)


if __name__ == "__main__":
    unittest.main()
