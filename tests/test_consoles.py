"""Consoles: each order with its answer, what is refused, and changes taken back one by one."""

import copy
import itertools
import random
import unittest

from tests.machinery import (
    COIN, CROOKED, ENDLESS, ENDLESS_PAIR, FIRST_THING, IS, LAST_THING, LINE, LONG, NOT_ENDING,
    NOT_MACHINES, PAIR, PERHAPS_ENDLESS, SIX, STATES_TWICE, THING_BESIDE_STATES, THREE, TO, scattered,
    some_machine)
from tests.samples import LARGE_SHARES, SIXTHS, SIXTIETHS, THIRDS
from tests.told import MACHINES
from tests.wrong import same
from tosstrees.consoles import Console
from tosstrees.errors import (
    InvalidMachine, InvalidName, InvalidPair, NotDrawn, NothingToUndo, UnknownName, Unorderly,
    Unreadable)
from tosstrees.machines import folded, leaves_of, machine_for, shares_of
from tosstrees.means import mean, over, spread
from tosstrees.tails import tail
from tosstrees.texts import show_machine, show_number, show_shares

KEPT = (
    ("pair", PAIR), ("coin", COIN), ("three", THREE), ("six", SIX), ("crooked", CROOKED), ("first", FIRST_THING),
    ("last", LAST_THING), ("beside", THING_BESIDE_STATES), ("twice", STATES_TWICE), ("endless", ENDLESS),
    ("endpair", ENDLESS_PAIR), ("perhaps", PERHAPS_ENDLESS), ("line", LINE))
NAMES = ("a", "z", "ab", "abcdefgh", "zzzzzzzz", "machine", "names", "undo", "for", "none", "done", "never")
NO_NAMES = ("", "A", "Ab", "aB", "abcdefghi", "zzzzzzzzz", "a1", "1", "0", "a b", " a", "a ", "a_b", "a-b", "-", "a.b",
            "a\n", "\n", "a\nb", "~", "`", "{", "@", "[", "s0/")
NO_TEXTS = (None, True, False, 0, 1, 7, (), ("a",), [], ["a"], {}, {"a": 1}, b"a", b"", 0.5, object)
ANSWERS = (
    ("show pair", "machine 2 s0\ni0 s0"), ("show first", "machine 1 i0"), ("show last", "machine 3 i2"),
    ("show three", "machine 3 s0\ns1 s2\ni0 i1\ni2 s0"), ("ends pair", "yes"), ("ends first", "yes"),
    ("ends endless", "no"), ("ends perhaps", "no"), ("ends line", "yes"), ("shares pair", "1 0"),
    ("shares three", "1/3 1/3 1/3"), ("shares first", "1"), ("shares last", "0 0 1"), ("shares endless", "never"),
    ("shares perhaps", "never"), ("shares six", "1/6 1/6 1/6 1/6 1/6 1/6"), ("mean pair", "2"), ("mean three", "8/3"),
    ("mean first", "0"), ("mean endless", "never"), ("mean perhaps", "never"), ("spread pair", "2"),
    ("spread three", "16/9"), ("spread coin", "0"), ("spread endpair", "never"), ("over pair", "2"),
    ("over three", "0"), ("over crooked", "3"), ("over endless", "never"), ("tail three 0", "1"),
    ("tail three 2", "1/4"), ("tail three 4", "1/16"), ("tail first 0", "0"), ("tail coin 1", "0"),
    ("tail endless 300", "1"), ("tail perhaps 300", "1/2"), ("tail crooked 300", "1/" + str(2 ** 150)),
    ("leaves three 4", "1 1 1"), ("leaves three 3", "0 0 0"), ("leaves first 0", "1"), ("leaves first 1", "0"),
    ("leaves endless 300", "0"), ("leaves crooked 300", f"{2 ** 149} {2 ** 149}"), ("leaves perhaps 1", "1 0"),
    ("walk three 001101", "0 1 : s0"), ("walk three -", "- : s0"), ("walk three 0", "- : s1"),
    ("walk three 1110", "2 : s0"), ("walk three 111", "- : s2"), ("walk first -", "- : i0"), ("walk last -", "- : i2"),
    ("walk coin 0110", "0 1 1 0 : s0"), ("walk endless 01", "- : s0"), ("walk coin " + "01" * 150, "0 1 " * 150 + ": s0"),
    ("alike three three", "yes"), ("alike pair coin", "1"), ("alike coin pair", "1"), ("alike first endless", "-"),
    ("alike perhaps pair", "10"), ("alike twice pair", "0"), ("alike beside beside", "yes"), ("alike last three", "-"))
HEADS = ("show", "ends", "shares", "mean", "spread", "over")
UNORDERLY = (
    "", " ", "\n", "\n\n", "show", "show ", "show  pair", " show pair", "show pair ", "show pair pair", "Show pair",
    "SHOW pair", "show Pair", "show pair\n", "show pair\n ", "show pair\nshow pair", "\nshow pair", "show\npair",
    "shows pair", "sho pair", "show pair1", "show 1", "show toolongname", "show pair,", "show:pair", "showpair",
    "pair", "pair show", "ends", "ends ", "ends pair coin", "ends pair\n", "shares", "shares pair 1", "mean",
    "mean pair 3", "spread", "spread -", "over", "over over over", "tail", "tail pair", "tail pair ", "tail pair  3",
    "tail pair 3 ", "tail pair 03", "tail pair -1", "tail pair +1", "tail pair 1/2", "tail pair x", "tail 3 pair",
    "tail pair 3 3", "tail pair -", "tail pair " + "1" * 31, "tail pair 3\n", "tail  pair 3", "leaves", "leaves pair",
    "leaves pair 00", "leaves pair 1.0", "leaves pair 1 1", "leaves pair ", "leaves three four", "walk", "walk pair",
    "walk pair ", "walk pair 2", "walk pair 0 1", "walk pair --", "walk pair -0", "walk pair 01 ", "walk pair  01",
    "walk pair 01\n", "walk 01 pair", "walk pair ()", "alike", "alike pair", "alike pair ", "alike pair  coin",
    "alike pair coin ", "alike pair coin three", "alike pair coin\n", "alike pair Coin", "names ", "names\n",
    "names pair", "names names", " names", "name", "Names", "undo ", "undo\n", "undo 1", "undo undo", " undo", "drop",
    "drop ", "drop pair coin", "drop pair\n", "drop Pair", "drop  pair", "drop pair ", "machine", "machine ",
    "machine new", "machine  new\nmachine 1 i0", "machine new \nmachine 1 i0", " machine new\nmachine 1 i0",
    "machine\nmachine 1 i0", "machine \nmachine 1 i0", "machine New\nmachine 1 i0", "machine new1\nmachine 1 i0",
    "machine toolongname\nmachine 1 i0", "machine new machine 1 i0", "machine new 1 i0\nmachine 1 i0", "machine 1 i0",
    "Machine new\nmachine 1 i0", "machines new\nmachine 1 i0", "machine 2 s0\ni0 s0", "for", "for new", "for new ",
    "for new 1/2", "for new 1/2 1/3", "for new 1/2  1/2", "for new 1/2 1/2 ", "for  new 1/2 1/2", "for new  1/2 1/2",
    "for new 1/2 2/4", "for new 0 1", "for new 1/2,1/2", "for New 1", "for 1", "for 1/2 1/2", "for new 1\n",
    "for new 1/2\n1/2", "for new 1 new", "for new -", "for new 1/2 1/2\nmachine 1 i0", "folded", "folded new",
    "folded new ", "folded  new pair", "folded new  pair", "folded new pair ", "folded new pair coin", "folded New pair",
    "folded new Pair", "folded new pair\n", "folded toolongname pair", "folded new 1/2 1/2", "keep new pair",
    "-", "0", "say pair", "quit", "help", "show_machine pair")


class ConsolesCase(unittest.TestCase):
    def console(self, kept=KEPT):
        found = Console()
        for name, machine in kept:
            self.assertIsNone(found.keep(name, machine))
        return found

    def state(self, console):
        return {name: console.machine(name) for name in console.names()}

    def answers(self, console, text, expected):
        found = console.order(text)
        if not same(found, expected):
            self.fail(f"{text!r}: {found!r}, not {expected!r}")

    def refuses(self, console, kind, value, call, *told, **named):
        """A call that raises an error with its value, and changes nothing."""
        before = self.state(console)
        handed = copy.deepcopy((told, named))
        try:
            call(*told, **named)
        except ValueError as error:
            if type(error) is not kind or not (error.value is value or same(error.value, value)):
                self.fail(f"{told} {named}: {error!r} {error.value!r}")
        else:
            self.fail(f"{told} {named}: no error")
        self.assertTrue(same((told, named), handed))
        self.assertEqual(self.state(console), before)


class KeepAndDrop(ConsolesCase):
    def test_none_at_first(self):
        console = Console()
        self.assertEqual(console.names(), [])
        self.answers(console, "names", "none")

    def test_what_is_kept_is_told(self):
        console = self.console()
        for name, machine in KEPT:
            self.assertIs(console.machine(name), machine)
            self.assertIs(console.machine(name=name), machine)
        self.assertEqual(console.names(), sorted(name for name, _ in KEPT))

    def test_names_of_one_to_eight_letters(self):
        console = self.console([(name, THREE) for name in NAMES])
        self.assertEqual(console.names(), sorted(NAMES))
        self.answers(console, "names", "\n".join(sorted(NAMES)))
        for name in NAMES:
            self.answers(console, f"show {name}", show_machine(THREE))
            self.answers(console, f"drop {name}", "done")
        self.assertEqual(console.names(), [])

    def test_a_new_machine_takes_the_place_of_an_elder_one(self):
        console = self.console([("one", PAIR), ("two", COIN)])
        self.assertIsNone(console.keep(name="one", machine=THREE))
        self.assertEqual(self.state(console), {"one": THREE, "two": COIN})

    def test_drop(self):
        console = self.console([("one", PAIR), ("two", COIN), ("three", THREE)])
        self.assertIsNone(console.drop("two"))
        self.assertEqual(self.state(console), {"one": PAIR, "three": THREE})
        self.assertIsNone(console.drop(name="one"))
        self.refuses(console, UnknownName, "one", console.drop, "one")
        self.refuses(console, UnknownName, "one", console.machine, "one")
        self.assertEqual(console.names(), ["three"])

    def test_lists_are_new(self):
        console = self.console([("one", PAIR), ("two", COIN)])
        found = console.names()
        found.append("three")
        found[0] = "none"
        self.assertEqual(console.names(), ["one", "two"])
        self.assertIsNot(console.names(), console.names())

    def test_no_names(self):
        console = self.console()
        for wrong in NO_NAMES + NO_TEXTS:
            self.refuses(console, InvalidName, wrong, console.keep, wrong, PAIR)
            self.refuses(console, InvalidName, wrong, console.keep, name=wrong, machine=PAIR)
            for machine in NOT_MACHINES[::9]:
                self.refuses(console, InvalidName, wrong, console.keep, wrong, machine)

    def test_no_machines(self):
        console = self.console(KEPT[:3])
        for wrong in NOT_MACHINES:
            for name in ("new", "pair"):
                self.refuses(console, InvalidMachine, wrong, console.keep, name, wrong)

    def test_unknown_names(self):
        for console in (Console(), self.console()):
            for wrong in NO_NAMES + NO_TEXTS + ("x", "pairs", "pai", "abcdefgh"):
                self.refuses(console, UnknownName, wrong, console.drop, wrong)
                self.refuses(console, UnknownName, wrong, console.machine, wrong)
                self.refuses(console, UnknownName, wrong, console.machine, name=wrong)


class Orders(ConsolesCase):
    def test_answers(self):
        console = self.console()
        before = self.state(console)
        for text, expected in ANSWERS:
            for _ in range(2):
                self.answers(console, text, expected)
            self.assertEqual(console.order(text=text), expected)
        self.assertEqual(self.state(console), before)
        self.answers(console, "names", "\n".join(sorted(name for name, _ in KEPT)))

    def test_machine(self):
        console = Console()
        for k, (text, machine) in enumerate(MACHINES[:9]):
            self.answers(console, f"machine m{'abcdefghi'[k]}\n{text}", "done")
            self.assertTrue(same(console.machine(f"m{'abcdefghi'[k]}"), machine))
            self.answers(console, f"show m{'abcdefghi'[k]}", text)

    def test_machine_in_the_place_of_an_elder_one(self):
        console = self.console()
        self.answers(console, "machine pair\nmachine 1 i0", "done")
        self.assertEqual(console.machine("pair"), FIRST_THING)
        self.assertEqual(len(console.names()), len(KEPT))

    def test_for(self):
        console = Console()
        for shares in [THIRDS, SIXTHS, SIXTIETHS, ((1, 1),)] + LARGE_SHARES:
            self.answers(console, "for new " + show_shares(shares), "done")
            self.assertTrue(same(console.machine("new"), machine_for(shares)))
            self.answers(console, "shares new", show_shares(shares))
            self.answers(console, "over new", "0")
        self.assertEqual(console.names(), ["new"])

    def test_folded(self):
        console = self.console()
        for seed, (name, machine) in enumerate(KEPT):
            self.answers(console, f"folded new {name}", "done")
            self.assertTrue(same(console.machine("new"), folded(machine)))
            self.answers(console, f"alike new {name}", "yes")
        console.keep("many", scattered(SIX, 5, 1))
        self.answers(console, "folded many many", "done")
        self.assertEqual(console.machine("many"), folded(SIX))

    def test_drop_and_undo(self):
        console = self.console([("one", PAIR)])
        self.answers(console, "drop one", "done")
        self.answers(console, "names", "none")
        self.answers(console, "undo", "done")
        self.answers(console, "names", "one")
        self.answers(console, "undo", "done")
        self.answers(console, "names", "none")
        self.refuses(console, NothingToUndo, 0, console.order, "undo")

    def test_numbers_of_machines(self):
        machines = [some_machine(seed, n, 12, 45) for seed, n in enumerate((2, 3, 5, 40))] + [SIX, CROOKED]
        console = Console()
        for machine in machines:
            console.keep("new", machine)
            self.answers(console, "shares new", show_shares(shares_of(machine)))
            self.answers(console, "mean new", show_number(mean(machine)))
            self.answers(console, "spread new", show_number(spread(machine)))
            for k in (0, 1, 7, 300):
                self.answers(console, f"tail new {k}", show_number(tail(machine, k)))
                self.answers(console, f"leaves new {k}", " ".join(str(many) for many in leaves_of(machine, k)))
        self.answers(console, "over new", show_number(over(CROOKED)))

    def test_machines_of_180_states(self):
        console = Console()
        for machine in (LONG, LINE, some_machine(3, 40, 180, 30), some_machine(8, 2, 180, 4)):
            self.answers(console, "machine long\n" + show_machine(machine), "done")
            self.assertEqual(console.machine("long"), machine)
            self.answers(console, "show long", show_machine(machine))
            self.answers(console, "folded short long", "done")
            self.answers(console, "alike short long", "yes")
            self.answers(console, "tail long 300", show_number(tail(machine, 300)))
            for word, call, show in (
                    ("shares", shares_of, show_shares), ("mean", mean, show_number), ("spread", spread, show_number)):
                ends = console.order("ends long") == "yes"
                self.answers(console, f"{word} long", show(call(machine)) if ends else "never")
        console.keep("long", LONG)
        self.answers(console, "mean long", str(2 ** 180 - 1))
        self.answers(console, "over long", str(2 ** 180 - 2))

    def test_never(self):
        console = Console()
        for machine in NOT_ENDING:
            console.keep("it", machine)
            self.answers(console, "ends it", "no")
            for word in ("shares", "mean", "spread", "over"):
                self.answers(console, f"{word} it", "never")
            self.answers(console, "show it", show_machine(machine))
            self.answers(console, "alike it it", "yes")
            self.answers(console, "walk it -", f"- : s{machine[1][1]}")
            self.answers(console, "folded other it", "done")
            self.answers(console, "mean other", "never")

    def test_the_words_are_names_too(self):
        console = Console()
        for word in ("machine", "for", "folded", "drop", "undo", "show", "names", "alike"):
            self.answers(console, f"for {word} 1/2 1/2", "done")
            self.answers(console, f"show {word}", show_machine(COIN))
            self.answers(console, f"machine {word}\nmachine 1 i0", "done")
            self.answers(console, f"folded {word} {word}", "done")
            self.answers(console, f"alike {word} {word}", "yes")


class Refused(ConsolesCase):
    def test_unorderly(self):
        console = self.console()
        for text in UNORDERLY:
            self.refuses(console, Unorderly, text, console.order, text)
            self.refuses(console, Unorderly, text, console.order, text=text)

    def test_names_that_are_none(self):
        console = self.console()
        for wrong in NO_NAMES:
            for text in [f"{head} {wrong}" for head in HEADS + ("drop",)] + [
                    f"tail {wrong} 3", f"leaves {wrong} 3", f"walk {wrong} 01", f"alike {wrong} pair", f"alike pair {wrong}",
                    f"folded {wrong} pair", f"folded new {wrong}", f"for {wrong} 1/2 1/2"]:
                self.refuses(console, Unorderly, text, console.order, text)
            if "\n" not in wrong:
                text = f"machine {wrong}\nmachine 1 i0"
                self.refuses(console, Unorderly, text, console.order, text)

    def test_lines_too_many(self):
        console = self.console()
        for text, _ in ANSWERS:
            for more in ("\n", "\n\n", "\nmachine 1 i0", "\n" + text):
                self.refuses(console, Unorderly, text + more, console.order, text + more)
        for text in ("for new 1/2 1/2", "folded new pair", "drop pair", "undo", "names"):
            for more in ("\n", "\nmachine 1 i0", "\n" + text):
                self.refuses(console, Unorderly, text + more, console.order, text + more)

    def test_blanks_too_many_or_too_few(self):
        console = self.console()
        for text, _ in ANSWERS + (("for new 1/2 1/2", ""), ("folded new pair", ""), ("drop pair", "")):
            places = [k for k, sign in enumerate(text) if sign == " "]
            for wrong in [text + " ", " " + text] + [text[:k] + " " + text[k:] for k in places] + [
                    text[:k] + text[k + 1:] for k in places]:
                self.refuses(console, Unorderly, wrong, console.order, wrong)

    def test_unknown_names(self):
        console = self.console([("pair", PAIR), ("coin", COIN)])
        for text, name in (
                ("show x", "x"), ("ends x", "x"), ("shares x", "x"), ("mean x", "x"), ("spread x", "x"), ("over x", "x"),
                ("tail x 3", "x"), ("leaves x 3", "x"), ("walk x 01", "x"), ("alike x pair", "x"), ("alike pair x", "x"),
                ("alike x y", "x"), ("alike y x", "y"), ("alike x x", "x"), ("folded new x", "x"), ("folded x y", "y"),
                ("drop x", "x"), ("drop pairs", "pairs"), ("show abcdefgh", "abcdefgh"), ("folded pair x", "x")):
            self.refuses(console, UnknownName, name, console.order, text)

    def test_unreadable(self):
        console = self.console()
        for name in ("new", "pair"):
            for text, at in (
                    ("", 1), (" ", 1), ("x", 1), ("\n", 1), ("machine 1 i0 ", 1), ("machine 1 i0\n", 2), ("i0 s0", 1),
                    ("machine 2 s0\ni0", 2), ("machine 2 s0\ni0 s0\n", 3), ("machine 2 s0\ni0 s0\ns0", 3),
                    ("machine 2 s0\nx\ny", 2), ("machine 2 s0", 0), ("machine 0 i0", 0), ("machine 2 s0\ni0 i2", 0),
                    ("machine 2 s0\ni0 s1", 0), ("machine 02 s0\ni0 s0", 1), ("show pair", 1), ("machine pair", 1),
                    (show_machine(LINE) + "\n", 182), (show_machine(LINE) + "\ns0", 182), (show_machine(LINE) + "x", 181)):
                self.refuses(console, Unreadable, at, console.order, f"machine {name}\n{text}")

    def test_errors_of_the_functions(self):
        console = self.console()
        for name, machine in (("first", FIRST_THING), ("last", LAST_THING), ("beside", THING_BESIDE_STATES)):
            for tosses in ("0", "1", "01" * 150):
                self.refuses(console, NotDrawn, machine, console.order, f"walk {name} {tosses}")
        for one, other, pair in (
                ("pair", "three", (2, 3)), ("three", "pair", (3, 2)), ("first", "line", (1, 40)), ("endless", "pair", (1, 2))):
            self.refuses(console, InvalidPair, pair, console.order, f"alike {one} {other}")

    def test_the_order_of_the_errors(self):
        console = self.console()
        for text in ("show x\n", "alike x\n", "walk x 2", "tail x -", "tail x 01", "machine x", "for x 1/3",
                     "folded x", "drop x y", "walk first 0 ", "alike pair three\n", "undo x", "machine X\nx"):
            self.refuses(console, Unorderly, text, console.order, text)
        self.refuses(console, UnknownName, "x", console.order, "alike pair x")
        self.refuses(console, UnknownName, "x", console.order, "alike x three")
        self.refuses(Console(), NothingToUndo, 0, Console().order, "undo")
        empty = Console()
        self.refuses(empty, Unorderly, "undo\n", empty.order, "undo\n")


class Undo(ConsolesCase):
    def back_to(self, console, states):
        """Takes back all changes, one by one, and once more."""
        for expected in reversed(states):
            self.assertIsNone(console.undo())
            self.assertEqual(self.state(console), expected)
        self.refuses(console, NothingToUndo, 0, console.undo)
        self.refuses(console, NothingToUndo, 0, console.order, "undo")

    def test_nothing_to_undo(self):
        for text in ("names", "undo"):
            console = Console()
            self.refuses(console, NothingToUndo, 0, console.undo)
            if text == "names":
                console.order(text)
            self.refuses(console, NothingToUndo, 0, console.order, "undo")

    def test_each_kind_of_change(self):
        console, states = Console(), []
        for change in (
                lambda: console.keep("one", PAIR), lambda: console.order("for two 1/3 2/3"),
                lambda: console.order("machine three\nmachine 1 i0"), lambda: console.order("folded four two"),
                lambda: console.drop("one"), lambda: console.order("drop three"), lambda: console.keep("two", SIX),
                lambda: console.order("folded two two"), lambda: console.order("machine two\nmachine 3 i2"),
                lambda: console.keep("two", LAST_THING), lambda: console.order("for one 1"),
                lambda: console.order("drop two")):
            states.append(self.state(console))
            change()
        self.back_to(console, states)

    def test_an_elder_machine_of_the_same_name(self):
        console = Console()
        for machine in (PAIR, COIN, PAIR, CROOKED):
            console.keep("it", machine)
        for machine in (PAIR, COIN, PAIR):
            self.answers(console, "undo", "done")
            self.assertIs(console.machine("it"), machine)
        console.undo()
        self.assertEqual(console.names(), [])

    def test_calls_that_raised_do_not_count(self):
        console = self.console([("one", PAIR), ("two", COIN)])
        for call, told in (
                (console.keep, ("One", PAIR)), (console.keep, ("one", None)), (console.drop, ("three",)),
                (console.machine, ("three",)), (console.order, ("drop three",)), (console.order, ("for one 1/2",)),
                (console.order, ("machine one\nmachine 1 i1",)), (console.order, ("folded one three",)),
                (console.order, ("folded one",)), (console.order, ("machine one",))):
            with self.assertRaises(ValueError):
                call(*told)
        for text in ("names", "show one", "ends one", "mean two", "alike one two", "tail one 3", "walk one 01"):
            console.order(text)
        console.undo()
        self.assertEqual(self.state(console), {"one": PAIR})
        console.undo()
        self.assertEqual(self.state(console), {})
        self.refuses(console, NothingToUndo, 0, console.undo)

    def test_changes_behind_an_undo(self):
        console = self.console([("one", PAIR), ("two", COIN)])
        console.undo()
        console.keep("three", THREE)
        console.drop("one")
        console.undo()
        console.undo()
        self.assertEqual(self.state(console), {"one": PAIR})
        console.order("drop one")
        console.order("undo")
        self.assertEqual(self.state(console), {"one": PAIR})
        console.order("undo")
        self.refuses(console, NothingToUndo, 0, console.undo)

    def test_600_changes(self):
        pick = random.Random(9)
        console, states = Console(), []
        names = ("a", "b", "c", "dd")
        machines = [machine for _, machine in KEPT]
        while len(states) < 600:
            here, name = self.state(console), pick.choice(names)
            kind = pick.randrange(6)
            if kind == 0 and states:
                console.order("undo") if pick.randrange(2) else console.undo()
                self.assertEqual(self.state(console), states.pop())
                continue
            if kind == 1 and name in here:
                console.drop(name)
            elif kind == 2 and name in here:
                console.order(f"folded {pick.choice(names)} {name}")
            else:
                console.keep(name, pick.choice(machines))
            states.append(here)
        self.back_to(console, states)


class Apart(ConsolesCase):
    def test_two_consoles(self):
        one, other = Console(), Console()
        one.keep("it", PAIR)
        self.assertEqual(other.names(), [])
        other.order("for it 1/3 2/3")
        other.order("for more 1")
        self.assertEqual(self.state(one), {"it": PAIR})
        self.refuses(one, UnknownName, "more", one.order, "show more")
        other.undo()
        other.undo()
        self.assertEqual(self.state(one), {"it": PAIR})
        self.refuses(other, NothingToUndo, 0, other.undo)
        one.order("drop it")
        self.assertEqual(other.names(), [])
        one.undo()
        one.undo()
        self.refuses(one, NothingToUndo, 0, one.undo)

    def test_machines_that_were_handed_in_or_told(self):
        console = Console()
        machines = [machine for _, machine in KEPT]
        before = copy.deepcopy(machines)
        for machine in machines:
            console.keep("it", machine)
            told = console.machine("it")
            console.order("folded it it")
            console.order("machine it\nmachine 1 i0")
            console.drop("it")
            self.assertTrue(same(told, machine))
        self.assertTrue(same(machines, before))

    def test_a_machine_that_one_console_told_another_one_keeps(self):
        one, other = self.console(), Console()
        for name in one.names():
            other.keep(name, one.machine(name))
            self.answers(other, f"machine x\n{one.order('show ' + name)}", "done")
            self.answers(other, f"alike x {name}", "yes")
        self.assertEqual(self.state(one), {name: other.machine(name) for name in one.names()})

    def test_the_same_question_again(self):
        console = self.console()
        texts = [text for text, _ in ANSWERS]
        found = [console.order(text) for text in texts]
        self.assertEqual([console.order(text) for text in texts], found)
        for one, two in itertools.product(("pair", "coin", "beside"), repeat=2):
            self.assertEqual(console.order(f"alike {one} {two}"), console.order(f"alike {two} {one}"))


if __name__ == "__main__":
    unittest.main()
