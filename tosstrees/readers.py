"""What texts tell: numbers, shares, figures, leaves, machines, tosses and tables.

A function that reads a part of a line returns None if the part can not stand there.
"""

from tosstrees.errors import Unreadable
from tosstrees.machines import is_machine
from tosstrees.shares import is_number, is_shares

_MOST_DIGITS = 30


def read_number(text):
    """Return the number that a text tells."""
    return only_line(text, number_in)


def read_shares(text):
    """Return the shares that a text tells."""
    return only_line(text, shares_in)


def read_figures(text):
    """Return the figures that a text tells."""
    return only_line(text, figures_in)


def read_leaves(text):
    """Return the leaves that a text tells."""
    return only_line(text, leaves_in)


def read_tosses(text):
    """Return the tosses that a text tells."""
    return only_line(text, tosses_in)


def read_table(text):
    """Return the table that a text tells."""
    return only_line(text, table_in)


def read_machine(text):
    """Return the machine that a text tells."""
    lines = text.split("\n")
    head = head_in(lines[0])
    if head is None:
        raise Unreadable(1)
    rows = []
    for at, line in enumerate(lines[1:], start=2):
        row = each_in(line, " ", place_in)
        if row is None or len(row) != 2:
            raise Unreadable(at)
        rows.append(row)
    machine = (*head, tuple(rows))
    if not is_machine(machine):
        raise Unreadable(0)
    return machine


def only_line(text, reading):
    """Return what a function reads in a text of one line."""
    line, more, _ = text.partition("\n")
    found = reading(line)
    if found is None:
        raise Unreadable(1)
    if more:
        raise Unreadable(2)
    return found


def each_in(text, between, reading):
    """Return the tuple of what a function reads in each of the parts of a text."""
    found = tuple([reading(part) for part in text.split(between)])
    if None in found:
        return None
    return found


def integer_in(text):
    """Read an integer from 0 on."""
    if not text.isdigit() or len(text) > _MOST_DIGITS:
        return None
    if text[0] == "0" and text != "0":
        return None
    return int(text)


def number_in(text):
    """Read a number from 0 on, which stands without its bottom if this is 1."""
    top, stroke, bottom = text.partition("/")
    number = (integer_in(top), integer_in(bottom) if stroke else 1)
    if not is_number(number) or (stroke and number[1] == 1):
        return None
    return number


def shares_in(text):
    """Read shares."""
    shares = each_in(text, " ", number_in)
    return shares if is_shares(shares) else None


def signs_in(text):
    """Read some 0 and 1 one behind the other, perhaps none."""
    if any(sign not in "01" for sign in text):
        return None
    return tuple([int(sign) for sign in text])


def figures_in(text):
    """Read figures, those of round in round brackets at the end."""
    before, _, behind = text.partition("(")
    ahead = signs_in(before)
    again = signs_in(behind[:-1])
    if ahead is None or not again or behind[-1] != ")":
        return None
    return (ahead, again)


def leaves_in(text):
    """Read leaves, rows of as many integers."""
    ahead, _, again = text.partition(" | ")
    told = (() if ahead == "-" else rows_in(ahead), rows_in(again))
    if None in told or any(len(row) != len(told[1][0]) for row in told[0] + told[1]):
        return None
    return told


def rows_in(text):
    """Read rows of integers, one or more."""
    return each_in(text, "; ", row_in)


def row_in(text):
    """Read integers, one or more."""
    return each_in(text, " ", integer_in)


def head_in(text):
    """Read the first line of a machine: how many things there are, and begin."""
    words = text.split(" ")
    if len(words) != 3 or words[0] != "machine":
        return None
    n = integer_in(words[1])
    begin = place_in(words[2])
    return None if n is None or begin is None else (n, begin)


def place_in(text):
    """Read a place."""
    kinds = {"s": "to", "i": "is"}
    number = integer_in(text[1:])
    if number is None or text[0] not in kinds:
        return None
    return (kinds[text[0]], number)


def tosses_in(text):
    """Read tosses, none from a hyphen."""
    if text == "-":
        return ()
    return signs_in(text) or None


def table_in(text):
    """Read a table of cells."""
    return each_in(text, ", ", cell_in)


def cell_in(text):
    """Read a cell: its two things, which are one if its bar is 1, and between them its bar."""
    words = text.split(" ")
    if len(words) != 3:
        return None
    one, bar, other = integer_in(words[0]), number_in(words[1]), integer_in(words[2])
    if one is None or bar is None or other is None:
        return None
    if not 0 < bar[0] <= bar[1] or (bar == (1, 1)) != (one == other):
        return None
    return (one, bar, other)
