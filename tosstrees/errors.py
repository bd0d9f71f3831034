"""The errors of the program, each with the value that is at fault."""


class TossError(ValueError):
    """What each error of the program is."""

    def __init__(self, value):
        ValueError.__init__(self, value)
        self.value = value


class InvalidNumber(TossError):
    """No number, or none of those that may stand there."""


class InvalidShares(TossError):
    """No shares."""


class InvalidFigures(TossError):
    """No figures of a number from 0 to 1."""


class InvalidLeaves(TossError):
    """No leaves of a tree of tosses."""


class InvalidMachine(TossError):
    """No machine."""


class InvalidRow(TossError):
    """No row of tosses."""


class InvalidThing(TossError):
    """No thing of these shares, or no things of them."""


class InvalidPair(TossError):
    """Two machines that have not as many things."""


class NeverEnds(TossError):
    """A machine that may go on for ever."""


class NotDrawn(TossError):
    """A machine that begins with a thing, so that it takes no tosses."""


class InvalidDice(TossError):
    """No dice, or no row of dice that serves."""


class InvalidTable(TossError):
    """No table of cells."""


class InvalidReader(TossError):
    """No reader of throws."""


class NoTable(TossError):
    """So many cells that no table of them has the shares."""


class InvalidName(TossError):
    """No name that a console keeps a machine under."""


class UnknownName(TossError):
    """A name that a console keeps no machine under."""


class NothingToUndo(TossError):
    """Nothing is left that a console could take back."""


class Unreadable(TossError):
    """A text in which the line of this number can not stand."""


class Unorderly(TossError):
    """A text that is no order."""
