"""Texts of numbers, shares, figures, leaves, machines, tosses and tables."""

_PIECE_DIGITS = 60
_PIECE = 10 ** 60


def show_number(number):
    """Return the top, and behind it the bottom if this is not 1."""
    top, bottom = number
    if bottom == 1:
        return show_integer(top)
    return f"{show_integer(top)}/{show_integer(bottom)}"


def show_integer(integer):
    """Return the digits of an integer."""
    if integer < 0:
        return "-" + show_integer(-integer)
    # Python itself writes no integer of more than 4300 digits in one go.
    pieces = []
    while integer >= _PIECE:
        pieces.append(str(integer % _PIECE).zfill(_PIECE_DIGITS))
        integer = integer // _PIECE
    pieces.append(str(integer))
    return "".join(pieces[::-1])


def show_shares(shares):
    """Return the numbers, separated by a space."""
    return " ".join([show_number(share) for share in shares])


def show_figures(told):
    """Return the figures of ahead one behind the other, and those of round in round brackets."""
    ahead, again = told
    return f"{show_signs(ahead)}({show_signs(again)})"


def show_signs(signs):
    """Return some 0 and 1 one behind the other, nothing for none."""
    return "".join([str(sign) for sign in signs])


def show_leaves(leaves):
    """Return the rows of ahead, or a hyphen for none, and those of round."""
    ahead, again = leaves
    return f"{show_rows(ahead) or '-'} | {show_rows(again)}"


def show_rows(rows):
    """Return rows of integers, these separated by a space."""
    return "; ".join([" ".join([show_integer(many) for many in row]) for row in rows])


def show_machine(machine):
    """Return a line for how many things there are and begin, then one for each state."""
    n, begin, rows = machine
    lines = [f"machine {show_integer(n)} {show_place(begin)}"]
    for row in rows:
        lines.append(" ".join([show_place(place) for place in row]))
    return "\n".join(lines)


def show_place(place):
    """Return a letter, for a state or a thing, and the number of it."""
    letter = "s" if place[0] == "to" else "i"
    return letter + show_integer(place[1])


def show_tosses(tosses):
    """Return the tosses one behind the other, or a hyphen for none."""
    return show_signs(tosses) or "-"


def show_table(table):
    """Return the cells of a table."""
    return ", ".join([show_cell(cell) for cell in table])


def show_cell(cell):
    """Return the two things of a cell, and its bar between them."""
    one, bar, other = cell
    return f"{show_integer(one)} {show_number(bar)} {show_integer(other)}"
