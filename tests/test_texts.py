"""Texts of all that is shown, as the document words them."""

import sys
import unittest

from tests.machinery import TO
from tests.told import FIGURES, LEAVES, MACHINES, NUMBERS, SHARES, TABLES, TOSSES
from tests.wrong import Asking
from tosstrees.texts import (
    show_figures, show_leaves, show_machine, show_number, show_shares, show_table, show_tosses)


class Texts(Asking, unittest.TestCase):
    def test_numbers(self):
        for text, number in NUMBERS:
            self.tells(text, show_number, number=number)

    def test_numbers_below_0(self):
        for text, number in (
                ("-1", (-1, 1)), ("-1/2", (-1, 2)), ("-17/60", (-17, 60)), ("-100", (-100, 1)),
                ("-" + "9" * 30, (1 - 10 ** 30, 1)), ("-1/1" + "0" * 59, (-1, 10 ** 59)),
                ("-1" + "0" * 60, (-10 ** 60, 1)), ("-1" + "0" * 4000 + "/7", (-10 ** 4000, 7)),
                ("-" + "9" * 5000, (1 - 10 ** 5000, 1))):
            self.tells(text, show_number, number=number)

    def test_numbers_of_many_digits(self):
        for many in list(range(1, 200)) + [599, 600, 601, 3999, 4000, 4001, 4300, 4301, 9000]:
            self.tells("9" * many, show_number, number=(10 ** many - 1, 1))
            self.tells("1" + "0" * many, show_number, number=(10 ** many, 1))
            self.tells("1/1" + "0" * (many - 1) + "1", show_number, number=(1, 10 ** many + 1))

    def test_numbers_with_all_kinds_of_digits(self):
        limit = sys.get_int_max_str_digits()
        for power in (1, 40, 99, 200, 1500, 8500):
            told = (7 ** power, 3 ** power)
            found = show_number(told)
            sys.set_int_max_str_digits(0)
            try:
                self.assertEqual(found, f"{told[0]}/{told[1]}")
            finally:
                sys.set_int_max_str_digits(limit)

    def test_shares(self):
        for text, told in SHARES:
            self.tells(text, show_shares, shares=told)
        self.tells("1 0 0", show_shares, shares=((1, 1), (0, 1), (0, 1)))

    def test_figures(self):
        for text, told in FIGURES:
            self.tells(text, show_figures, told=told)

    def test_leaves(self):
        for text, told in LEAVES:
            self.tells(text, show_leaves, leaves=told)

    def test_machines(self):
        for text, told in MACHINES:
            self.tells(text, show_machine, machine=told)

    def test_a_machine_of_180_states(self):
        rows = tuple(((TO, 179 - k), (TO, k)) for k in range(180))
        lines = ["machine 40 s179"] + [f"s{179 - k} s{k}" for k in range(180)]
        self.tells("\n".join(lines), show_machine, machine=(40, (TO, 179), rows))

    def test_tosses(self):
        for text, told in TOSSES:
            self.tells(text, show_tosses, tosses=told)

    def test_tables(self):
        for text, told in TABLES:
            self.tells(text, show_table, table=told)


if __name__ == "__main__":
    unittest.main()
