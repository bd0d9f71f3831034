"""Named machines, and orders about them that are told by texts."""

from tosstrees.errors import InvalidName, NeverEnds, NothingToUndo, UnknownName, Unorderly
from tosstrees.machines import (
    alike, check_machine, ends, folded, leaves_of, machine_for, shares_of, walk)
from tosstrees.means import mean, over, spread
from tosstrees.readers import integer_in, read_machine, shares_in, tosses_in
from tosstrees.tails import tail
from tosstrees.texts import (
    show_integer, show_machine, show_number, show_place, show_shares, show_tosses)

_MOST_LETTERS = 8


def is_name(told):
    """Tell whether a value is a name: one to eight letters from a to z."""
    if not isinstance(told, str) or not 1 <= len(told) <= _MOST_LETTERS:
        return False
    return all("a" <= sign <= "z" for sign in told)


def answer_show(machine):
    """Return the text of a machine."""
    return show_machine(machine)


def answer_ends(machine):
    """Return whether a machine ends."""
    return "yes" if ends(machine) else "no"


def answer_shares(machine):
    """Return the shares of a machine's things."""
    return show_shares(shares_of(machine))


def answer_mean(machine):
    """Return the mean number of tosses of a machine."""
    return show_number(mean(machine))


def answer_spread(machine):
    """Return the spread of how many tosses a machine takes."""
    return show_number(spread(machine))


def answer_over(machine):
    """Return by how much a machine's mean is over the least one."""
    return show_number(over(machine))


def answer_tail(machine, k):
    """Return the chance that a machine takes more than k tosses."""
    return show_number(tail(machine, k))


def answer_leaves(machine, k):
    """Return how many leaves of each thing a machine has at a depth."""
    return show_integers(leaves_of(machine, k))


def answer_walk(machine, tosses):
    """Return the things that a machine draws by some tosses, and the place at their end."""
    things, place = walk(machine, tosses)
    return f"{show_integers(things) or '-'} : {show_place(place)}"


def answer_alike(one, other):
    """Return whether two machines are alike, or by which tosses they are not."""
    tosses = alike(one, other)
    return "yes" if tosses is None else show_tosses(tosses)


def show_integers(integers):
    """Return integers, separated by a space."""
    return " ".join([show_integer(one) for one in integers])


# What stands in an order behind its first word; behind the first line of one stands a machine.
_PARTS = {
    "machine": ("name",), "for": ("name", "shares"), "folded": ("name", "machine"),
    "drop": ("name",), "undo": (), "show": ("machine",), "ends": ("machine",),
    "shares": ("machine",), "mean": ("machine",), "spread": ("machine",), "over": ("machine",),
    "tail": ("machine", "integer"), "leaves": ("machine", "integer"),
    "walk": ("machine", "tosses"), "alike": ("machine", "machine"), "names": ()}
_ANSWERS = {
    "show": answer_show, "ends": answer_ends, "shares": answer_shares, "mean": answer_mean,
    "spread": answer_spread, "over": answer_over, "tail": answer_tail, "leaves": answer_leaves,
    "walk": answer_walk, "alike": answer_alike}


def order_in(text):
    """Return the first word of an order and the list of what stands behind it, the lines of a
    machine last, or None if a text is no order."""
    line, more, below = text.partition("\n")
    word = line.partition(" ")[0]
    if word not in _PARTS or (more != "") != (word == "machine"):
        return None
    kinds = _PARTS[word]
    # The last part of an order may have spaces of its own.
    words = line.split(" ", len(kinds))
    if words[0] != word or len(words) != len(kinds) + 1:
        return None
    parts = [part_in(kind, part) for kind, part in zip(kinds, words[1:])]
    if None in parts:
        return None
    return (word, [*parts, below] if more else parts)


def part_in(kind, text):
    """Return what a part of an order tells, or None if it can not stand there."""
    if kind == "shares":
        return shares_in(text)
    if kind == "tosses":
        return tosses_in(text)
    if kind == "integer":
        return integer_in(text)
    return text if is_name(text) else None


class Console:
    """Named machines, none at first."""

    def __init__(self):
        self._machines = {}
        self._before = []

    def keep(self, name, machine):
        """Keep a machine under a name, in the place of an elder one."""
        if not is_name(name):
            raise InvalidName(name)
        check_machine(machine)
        self._before.append((name, self._machines.get(name)))
        self._machines[name] = machine

    def drop(self, name):
        """Keep the machine of a name no longer."""
        self._before.append((name, self.machine(name)))
        del self._machines[name]

    def undo(self):
        """Take back the last change that is not taken back."""
        if len(self._before) == 0:
            raise NothingToUndo(0)
        name, machine = self._before.pop()
        if machine is None:
            del self._machines[name]
        else:
            self._machines[name] = machine

    def machine(self, name):
        """Return the machine of a name."""
        if not is_name(name) or name not in self._machines:
            raise UnknownName(name)
        return self._machines[name]

    def names(self):
        """Return the ascending list of the names."""
        return sorted(self._machines)

    def order(self, text):
        """Do what a text says, and return the answer."""
        told = order_in(text)
        if told is None:
            raise Unorderly(text)
        word, parts = told
        if word == "names":
            return "\n".join(self.names()) or "none"
        if word in _ANSWERS:
            return self._answer(word, parts)
        self._change(word, parts)
        return "done"

    def _answer(self, word, parts):
        """Return the answer of an order that asks about machines."""
        action = _ANSWERS[word]
        told = [self.machine(part) if kind == "machine" else part
                for kind, part in zip(_PARTS[word], parts)]
        try:
            return action(*told)
        except NeverEnds:
            return "never"

    def _change(self, word, parts):
        """Carry out an order that changes what is kept."""
        if word == "undo":
            self.undo()
        elif word == "drop":
            self.drop(parts[0])
        elif word == "machine":
            self.keep(parts[0], read_machine(parts[1]))
        elif word == "for":
            self.keep(parts[0], machine_for(parts[1]))
        else:
            self.keep(parts[0], folded(self.machine(parts[1])))
