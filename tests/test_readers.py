"""Texts read: each one there and back, and against patterns of what may stand in a line."""

import itertools
import math
import re
import unittest
from fractions import Fraction

from tests.told import (
    FIGURES, LEAVES, MACHINES, NUMBERS, SHARES, SOME_LEAVES, SOME_MACHINES, SOME_SHARES, TABLES,
    TOSSES)
from tests.wrong import Asking
from tosstrees.errors import Unreadable
from tosstrees.readers import (
    read_figures, read_leaves, read_machine, read_number, read_shares, read_table, read_tosses)
from tosstrees.texts import (
    show_figures, show_leaves, show_machine, show_number, show_shares, show_table, show_tosses)

INTEGER = "(?:0|[1-9][0-9]{0,29})"
NUMBER = f"{INTEGER}(?:/{INTEGER})?"
ROW = f"{INTEGER}(?: {INTEGER})*"
ROWS = f"{ROW}(?:; {ROW})*"
CELL = f"{INTEGER} {NUMBER} {INTEGER}"
PLACE = f"[si]{INTEGER}"
HEAD = f"machine {INTEGER} {PLACE}"


def is_number(text):
    if not re.fullmatch(NUMBER, text):
        return False
    if "/" not in text:
        return True
    top, bottom = [int(part) for part in text.split("/")]
    return bottom > 1 and math.gcd(top, bottom) == 1


def is_shares(text):
    words = text.split(" ")
    if not all(is_number(word) and word != "0" for word in words):
        return False
    return sum(Fraction(word) for word in words) == 1


def is_figures(text):
    return bool(re.fullmatch(r"[01]*\([01]+\)", text))


def is_leaves(text):
    if not re.fullmatch(rf"(?:-|{ROWS}) \| {ROWS}", text):
        return False
    rows = re.split(r" \| |; ", text)
    return len({row.count(" ") for row in rows if row != "-"}) == 1


def is_tosses(text):
    return bool(re.fullmatch("-|[01]+", text))


def is_table(text):
    return all(is_cell(cell) for cell in text.split(", "))


def is_cell(text):
    if not re.fullmatch(CELL, text):
        return False
    one, bar, other = text.split(" ")
    if not is_number(bar) or not 0 < Fraction(bar) <= 1:
        return False
    return (bar == "1") == (one == other)


def wrong_line_of(text):
    """The number of the first line of a machine's text that can not stand, or None."""
    lines = text.split("\n")
    for at, line in enumerate(lines, start=1):
        if not re.fullmatch(HEAD if at == 1 else f"{PLACE} {PLACE}", line):
            return at
    _, n, begin = lines[0].split(" ")
    places = " ".join([begin] + lines[1:]).split(" ")
    many = {"s": len(lines) - 1, "i": int(n)}
    return None if all(int(place[1:]) < many[place[0]] for place in places) and n != "0" else 0


KINDS = (
    (read_number, show_number, is_number, NUMBERS, "01247/ -"),
    (read_shares, show_shares, is_shares, SHARES, "0124/ -"),
    (read_figures, show_figures, is_figures, FIGURES, "01() 2-"),
    (read_leaves, show_leaves, is_leaves, LEAVES, "01-|; ,"),
    (read_tosses, show_tosses, is_tosses, TOSSES, "01- 2("),
    (read_table, show_table, is_table, TABLES, "012/, -"))
SIGNS = [chr(k) for k in range(32, 127) if chr(k) != "%"]


def edits(text):
    """All texts with one sign put in, left out or in the place of another one; of long texts at
    the two ends alone."""
    places = [k for k in range(len(text) + 1) if k < 40 or k > len(text) - 4]
    found = [text[:k] + text[k + 1:] for k in places]
    for k, sign in itertools.product(places, "0129/ ,;()|-sim+_.\n"):
        found += [text[:k] + sign + text[k:], text[:k] + sign + text[k + 1:]]
    return [one for one in found if one != text]


class Lines(Asking, unittest.TestCase):
    """What is of one line."""

    def is_read_or_not(self, kind, text):
        read, show, may_stand, _, _ = kind
        line, more, _ = text.partition("\n")
        if may_stand(line) and not more:
            self.assertEqual(show(read(text)), text)
        else:
            self.fails(Unreadable, 2 if may_stand(line) else 1, read, text=text)

    def test_there_and_back(self):
        for read, show, may_stand, told, _ in KINDS:
            for text, value in told:
                self.assertTrue(may_stand(text), text)
                self.tells(value, read, text=text)
                self.assertEqual(show(read(text)), text)

    def test_more_there_and_back(self):
        for shares in SOME_SHARES:
            self.tells(shares, read_shares, text=show_shares(shares))
        for leaves in SOME_LEAVES:
            told = show_leaves(leaves)
            if max(len(word) for word in told.split(" ")) <= 30:
                self.tells(leaves, read_leaves, text=told)

    def test_all_short_texts(self):
        for kind in KINDS:
            for many in range(6):
                for signs in itertools.product(kind[4], repeat=many):
                    text = "".join(signs)
                    if kind[2](text):
                        self.is_read_or_not(kind, text)
                    else:
                        self.is_unreadable(kind[0], text)

    def is_unreadable(self, read, text):
        try:
            found = read(text)
        except Unreadable as error:
            self.assertEqual(error.value, 1)
        else:
            self.fail(f"{text!r} is read as {found}")

    def test_texts_with_another_sign(self):
        for kind in KINDS:
            for text, _ in kind[3]:
                for wrong in edits(text):
                    self.is_read_or_not(kind, wrong)

    def test_each_sign_by_itself(self):
        for kind in KINDS:
            for sign in SIGNS:
                for text in (sign, "1" + sign, sign + "1", "1 " + sign, sign + "(0)", "0 1/2" + sign + "1"):
                    self.is_read_or_not(kind, text)

    def test_lines_too_many_or_too_few(self):
        for kind in KINDS:
            for text, _ in kind[3]:
                for more in ("\n", "\n\n", "\n" + text, "\n ", "\nx", "\n" * 9 + text):
                    self.fails(Unreadable, 2, kind[0], text=text + more)
                for wrong in ("\n" + text, "x\n" + text, " \n" + text, text + " \n", text + "x\n" + text):
                    self.fails(Unreadable, 1, kind[0], text=wrong)
            for wrong in ("", "\n", "\n\n", " ", " \n", "x", "x\n", "\nx"):
                self.fails(Unreadable, 1, kind[0], text=wrong)

    def test_needless_noughts_and_signs(self):
        for wrong in ("00", "01", "007", "+1", "-1", "-0", "0/1", "1/1", "5/1", "01/2", "1/02", "+1/2",
                      "1/+2", "-1/2", "1/-2", "1_0", "1.0", "0.5", "1e1", "0x1", " 1", "1 "):
            self.fails(Unreadable, 1, read_number, text=wrong)
            self.fails(Unreadable, 1, read_shares, text=f"{wrong} 1/2")
            self.fails(Unreadable, 1, read_table, text=f"0 {wrong} 0")
            self.fails(Unreadable, 1, read_table, text=f"0 {wrong} 1")
        for wrong in ("00", "01", "+1", "-1", "-0", "1/2", "1.0", "1_0", " 1", "1 "):
            self.fails(Unreadable, 1, read_leaves, text=f"{wrong} | 0")
            self.fails(Unreadable, 1, read_leaves, text=f"1 0 | 0 {wrong}")
            self.fails(Unreadable, 1, read_table, text=f"{wrong} 1/2 0")
            self.fails(Unreadable, 1, read_table, text=f"0 1/2 {wrong}")

    def test_numbers_not_in_lowest_terms(self):
        for wrong in ("2/4", "0/2", "3/3", "6/3", "4/2", "10/15", "1/0", "0/0", "1/", "/2", "/", "1//2",
                      "1/2/3", "1/2/1", "9" * 30 + "/" + "3" * 30):
            self.fails(Unreadable, 1, read_number, text=wrong)
            self.fails(Unreadable, 1, read_shares, text=f"1/2 {wrong}")
            self.fails(Unreadable, 1, read_table, text=f"0 {wrong} 1")

    def test_integers_of_more_than_30_digits(self):
        for read, wrong in (
                (read_number, "1" + "0" * 30), (read_number, "1/1" + "0" * 30), (read_number, "9" * 5000),
                (read_number, "1" + "0" * 30 + "/3"), (read_number, "0" * 31),
                (read_shares, "1/1" + "0" * 30 + " " + "9" * 30 + "/1" + "0" * 30),
                (read_leaves, "1" + "0" * 30 + " | 0"), (read_leaves, "- | 1" + "0" * 30),
                (read_table, "1" + "0" * 30 + " 1/2 0"), (read_table, "0 1/2 1" + "0" * 30),
                (read_table, "0 1/1" + "0" * 30 + " 1")):
            self.fails(Unreadable, 1, read, text=wrong)

    def test_shares_that_do_not_add_up_to_1(self):
        for wrong in ("1/2", "1/2 1/3", "1/2 2/3", "0", "0 1", "1 0", "1/2 0 1/2", "2", "1 1", "3/2",
                      "1/3 1/3 1/3 1/3", "1/3  2/3", " 1/3 2/3", "1/3 2/3 ", "1/3,2/3", "1/3, 2/3"):
            self.fails(Unreadable, 1, read_shares, text=wrong)

    def test_figures_that_can_not_stand(self):
        for wrong in ("()", "0()", "01", "0(01", "001)", "(", ")", ")(", "(0)(1)", "((0))", "(0)1", "(0) ",
                      " (0)", "0 (01)", "0( 01)", "0(0 1)", "2(0)", "0(2)", "-(0)", "-", "0[01]", "(0))"):
            self.fails(Unreadable, 1, read_figures, text=wrong)

    def test_leaves_that_can_not_stand(self):
        for wrong in ("1", "1 |", "| 1", "1 | ", " | 1", "1|0", "1 |0", "1| 0", "1  | 0", "1 |  0", "1 | -",
                      "- | -", "-; 1 | 0", "- - | 0", "1; - | 0", "1 | 0 | 0", "1 || 0", "1 0 | 0", "1 | 0 0",
                      "1; 1 0 | 0", "1; 1 | 0; 0 0", "- | 1; 1 1", "1;0 | 0", "1 ;0 | 0", "1 ; 0 | 0",
                      "1;  0 | 0", "1; | 0", "; 1 | 0", "1; ; 1 | 0", "1 | 0;", "1 | 0; ", "1  1 | 0 0",
                      "1, 1 | 0", "- |0", "-| 0", "--| 0", "-- | 0"):
            self.fails(Unreadable, 1, read_leaves, text=wrong)

    def test_tosses_that_can_not_stand(self):
        for wrong in ("--", "-0", "0-", "2", "012", "0 1", " 01", "01 ", "0,1", "01-"):
            self.fails(Unreadable, 1, read_tosses, text=wrong)

    def test_cells_that_can_not_stand(self):
        for wrong in ("0 1 1", "1 1 0", "0 1/2 0", "5 2/3 5", "0 0 1", "0 0 0", "0 3/2 1", "0 2 1", "0 2 0",
                      "0 1/2", "0 1/2 1 2", "1/2 1/2 1", "0 1/2 1/3", "0 1/2 1,1 1/2 0", "0 1/2 1,  1 1/2 0",
                      "0 1/2 1 , 1 1/2 0", "0 1/2 1,", "0 1/2 1, ", ", 0 1/2 1", "0  1/2 1", "-", "i0 1/2 i1",
                      "0 1/2 1; 1 1/2 0", "0 1/2 1, 1 1/2 1", "0 1 1, 0 1/2 1"):
            self.fails(Unreadable, 1, read_table, text=wrong)


class Machines(Asking, unittest.TestCase):
    def is_read_or_not(self, text):
        wrong = wrong_line_of(text)
        if wrong is None:
            self.assertEqual(show_machine(read_machine(text)), text)
        else:
            self.fails(Unreadable, wrong, read_machine, text=text)

    def test_there_and_back(self):
        for text, machine in MACHINES:
            self.assertIsNone(wrong_line_of(text))
            self.tells(machine, read_machine, text=text)
        for machine in SOME_MACHINES:
            self.tells(machine, read_machine, text=show_machine(machine))

    def test_texts_with_another_sign(self):
        for text, _ in MACHINES:
            for wrong in edits(text):
                self.is_read_or_not(wrong)

    def test_all_short_lines(self):
        for many in range(6):
            for signs in itertools.product("si01 2", repeat=many):
                line = "".join(signs)
                for text, wrong in ((f"machine {line}", wrong_line_of(f"machine {line}")),
                                    (f"machine 3 s0\n{line}", wrong_line_of(f"machine 3 s0\n{line}"))):
                    if wrong is None:
                        self.assertEqual(show_machine(read_machine(text)), text)
                    else:
                        self.is_wrong(wrong, text)

    def is_wrong(self, at, text):
        with self.assertRaises(Unreadable, msg=text) as caught:
            read_machine(text)
        self.assertEqual(caught.exception.value, at, text)

    def test_the_first_line_that_can_not_stand(self):
        lines = MACHINES[7][0].split("\n")
        wrong = ("", " ", "x", "s0", "i0", "s0 s0 ", " s0 s0", "s0  s0", "s0 s0 s0", "s0 t0", "s0 i", "s 0",
                 "s0,s0", "s00 s0", "s0 i01", "s-1 s0", "s0 i+1", "S0 I0", "machine 6 s0", "s1" + "0" * 30 + " s0")
        for line, at in itertools.product(wrong, range(1, len(lines) + 1)):
            text = "\n".join(lines[:at] + [line] + lines[at:])
            self.fails(Unreadable, at + 1, read_machine, text=text)
            self.fails(Unreadable, at + 1, read_machine, text=text + "\n" + line)
            self.fails(Unreadable, at + 1, read_machine, text=text.replace("s5", "s99"))

    def test_an_empty_last_line(self):
        for text, _ in MACHINES:
            self.fails(Unreadable, text.count("\n") + 2, read_machine, text=text + "\n")

    def test_the_first_line(self):
        for wrong in ("", " ", "machine", "machine 2", "machine s0", "machine 2 s0 ", " machine 2 s0",
                      "machine  2 s0", "machine 2  s0", "machine 2 s0 s0", "Machine 2 s0", "machin 2 s0",
                      "machines 2 s0", "machine 02 s0", "machine -2 s0", "machine +2 s0", "machine 2 s",
                      "machine 2 0", "machine 2 0s", "machine 2 s00", "machine 2 s-1", "machine 2 S0",
                      "machine 2 t0", "machine two s0", "machine 1/2 s0", "machine 2,s0", "machine2 s0",
                      "machine 1" + "0" * 30 + " s0", "machine 2 s1" + "0" * 30, "machine 2 is0",
                      "i0 s0", "machine\n2 s0", "for 2 s0"):
            for more in ("", "\n", "\ni0 s0", "\nx", "\nmachine 2 s0"):
                self.fails(Unreadable, 1, read_machine, text=wrong + more)

    def test_all_lines_can_stand_but_it_is_no_machine(self):
        for wrong in ("machine 0 s0", "machine 0 i0", "machine 0 s0\ns0 s0", "machine 2 s0", "machine 2 i2",
                      "machine 2 s1\ni0 i1", "machine 2 s0\ni0 i2", "machine 2 s0\ns1 i0", "machine 1 i1",
                      "machine 2 s0\ni0 i1\ni0 s2", "machine 2 i0\ns7 s0", "machine 1 s" + "9" * 30,
                      "machine 1 s0\ns0 i" + "9" * 30, "machine 2 s0\ni5 i0\ns0 s0"):
            self.fails(Unreadable, 0, read_machine, text=wrong)

    def test_a_line_that_can_not_stand_counts_before_places_that_there_are_not(self):
        self.fails(Unreadable, 3, read_machine, text="machine 0 s9\ns7 i5\ns7")
        self.fails(Unreadable, 2, read_machine, text="machine 0 s9\n\ns7 i5")
        self.fails(Unreadable, 1, read_machine, text="machine 00 s9\ns7 i5\ns7")

    def test_the_last_of_180_lines(self):
        text = show_machine(SOME_MACHINES[0])
        self.fails(Unreadable, 181, read_machine, text=text + "0x")
        self.fails(Unreadable, 182, read_machine, text=text + "\ns0")
        self.fails(Unreadable, 0, read_machine, text=text + "\ns0 s181")


if __name__ == "__main__":
    unittest.main()
