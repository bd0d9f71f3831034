"""The examples of the document, as they stand there, and the names that its interface lists."""

import doctest
import inspect
import os
import unittest

from tosstrees import (
    cells, consoles, crooked, dice, errors, figures, machines, means, readers, rows, shares, tails, texts, trees)

README = os.path.join(os.path.dirname(os.path.dirname(os.path.abspath(__file__))), "README.md")
SHARES = """
>>> from tosstrees.shares import both, parted, put_together, shares
>>> [shares([1, 2, 1]), put_together(((1, 4), (1, 2), (1, 4)), (0, 2)), parted(((1, 2), (1, 2)), 1, ((1, 3), (2, 3)))]
[((1, 4), (1, 2), (1, 4)), ((1, 2), (1, 2)), ((1, 2), (1, 6), (1, 3))]
"""
FIGURES = """
>>> from tosstrees.figures import cost, figure, figures, number, rest
>>> [figures((1, 3)), figures((3, 4)), number(((0,), (0, 1))), figure((1, 3), 4), cost((1, 3)), cost((3, 4)), rest((1, 3), 3)]
[((0,), (0, 1)), ((0, 1, 1), (0,)), (1, 3), 1, (8, 9), (1, 1), (2, 3)]
"""
TREES = """
>>> from tosstrees.trees import drawn, is_least, knots, leaves, mean_of
>>> thirds = ((1, 3), (1, 3), (1, 3))
>>> [leaves(((1, 4), (3, 4))), leaves(thirds), mean_of(leaves(thirds)), knots(leaves(thirds), 1)]
[(((0, 0), (0, 1), (1, 1)), ((0, 0),)), (((0, 0, 0),), ((0, 0, 0), (1, 1, 1))), (8, 3), 2]
>>> [is_least((((0, 0), (0, 0), (2, 2)), ((0, 0),))), drawn((((0, 0), (0, 0), (2, 2)), ((0, 0),)))]
[False, ((1, 2), (1, 2))]
"""
MACHINES = """
>>> from tosstrees.machines import alike, ends, folded, leaves_of, machine_for, shares_of, walk
>>> three = machine_for(thirds)
>>> [three, shares_of(three), walk(three, (0, 0, 1, 1, 0, 1)), leaves_of(three, 4)]
[(3, ('to', 0), ((('to', 1), ('to', 2)), (('is', 0), ('is', 1)), (('is', 2), ('to', 0)))), ((1, 3), (1, 3), (1, 3)), ((0, 1), ('to', 0)), (1, 1, 1)]
"""
TEXTS = """
>>> from tosstrees.texts import show_figures, show_leaves, show_machine, show_table
>>> [show_figures(((0,), (0, 1))), show_leaves(leaves(thirds)), show_machine(pair), show_table(((0, (2, 3), 1),))]
['0(01)', '0 0 0 | 0 0 0; 1 1 1', 'machine 2 s0\\ni0 s0', '0 2/3 1']
"""
MEANS = """
>>> from tosstrees.means import least_mean, mean, over, spread
>>> pair = (2, ("to", 0), ((("is", 0), ("to", 0)),))
>>> [least_mean(thirds), least_mean(((1, 2), (1, 4), (1, 4))), mean(pair), spread(pair), over(pair)]
[(8, 3), (3, 2), (2, 1), (2, 1), (2, 1)]
"""
TAILS = """
>>> from tosstrees.tails import least_tail, surely, tail, within
>>> [least_tail(thirds, 2), tail(three, 2), surely(((1, 8), (7, 8))), surely(thirds), within(thirds, (1, 100))]
[(1, 4), (1, 4), 3, None, 8]
"""
CELLS = """
>>> from tosstrees.cells import fewest_cells, groups, is_table, shares_of_table, table_for
>>> [groups(thirds, 2), fewest_cells(((1, 2), (1, 4), (1, 4))), table_for(thirds, 2), groups(thirds, 1)]
[((0, 1, 2),), 2, ((0, (2, 3), 1), (1, (1, 3), 2)), None]
>>> [shares_of_table(3, ((0, (2, 3), 1), (1, (1, 3), 2))), is_table(2, ((0, (1, 1), 1),))]
[((1, 3), (1, 3), (1, 3)), False]
"""
DICE = """
>>> from tosstrees.dice import base_figures, die_mean, die_surely, fewest_dice, is_bounded, row_draw
>>> [is_bounded(thirds, (4, 6)), fewest_dice(((1, 12), (11, 12)), (2, 6)), row_draw(((1, 12), (11, 12)), (2, 6)), base_figures((1, 2), 3)]
[True, (2, 6), (1, 11), ((0,), (1,))]
>>> [die_mean(thirds, 3), die_mean(((1, 2), (1, 2)), 3), die_surely(thirds, 6)]
[(1, 1), (3, 2), 1]
"""
CROOKED = """
>>> from tosstrees.crooked import best, is_fair, mean_out, most, put_out
>>> [best(2), put_out((0, 1, 1)), most(4), mean_out(2, (1, 2)), is_fair(2, ((), (0,), (), (1,)))]
[((), (0,), (1,), ()), (0,), (0, 8, 10, 8, 0), (1, 2), False]
"""
ROWS = """
>>> from tosstrees.rows import even_mean, lot_mean, many, saved, shuffle_mean
>>> [many(((1, 2), (1, 2)), 2), even_mean(3), saved(((1, 4), (3, 4)), 1), shuffle_mean(2), lot_mean(4, 2)]
[((1, 4), (1, 4), (1, 4), (1, 4)), (8, 3), (0, 1), (1, 1), (11, 3)]
"""
EXAMPLES = (
    (SHARES, 2), (FIGURES, 2), (TREES, 4), (MACHINES, 3), (TEXTS, 2), (MEANS, 3), (TAILS, 2), (CELLS, 3),
    (DICE, 3), (CROOKED, 2), (ROWS, 2))
# What the document tells further up, in other sections.
THIRDS = ((1, 3), (1, 3), (1, 3))
TOLD = {
    "thirds": THIRDS, "leaves": trees.leaves, "three": machines.machine_for(THIRDS),
    "pair": (2, ("to", 0), ((("is", 0), ("to", 0)),))}
INTERFACE = {
    shares: {
        "is_number": ["told"], "is_shares": ["told"], "shares": ["weights"],
        "put_together": ["shares", "things"], "parted": ["shares", "thing", "parts"],
        "both": ["one", "other"]},
    figures: {
        "figures": ["number"], "number": ["told"], "figure": ["number", "k"], "cost": ["number"],
        "rest": ["number", "k"]},
    trees: {
        "is_leaves": ["told"], "leaves": ["shares"], "drawn": ["leaves"], "mean_of": ["leaves"],
        "is_least": ["leaves"], "knots": ["leaves", "k"]},
    machines: {
        "is_machine": ["told"], "ends": ["machine"], "shares_of": ["machine"],
        "walk": ["machine", "tosses"], "folded": ["machine"], "alike": ["one", "other"],
        "machine_for": ["shares"], "leaves_of": ["machine", "k"]},
    means: {
        "least_mean": ["shares"], "mean": ["machine"], "spread": ["machine"], "over": ["machine"]},
    tails: {
        "least_tail": ["shares", "k"], "tail": ["machine", "k"], "surely": ["shares"],
        "within": ["shares", "far"]},
    cells: {
        "is_cell": ["n", "told"], "is_table": ["n", "told"], "shares_of_table": ["n", "table"],
        "groups": ["shares", "m"], "fewest_cells": ["shares"], "table_for": ["shares", "m"]},
    dice: {
        "is_dice": ["told"], "is_bounded": ["shares", "dice"], "fewest_dice": ["shares", "dice"],
        "row_draw": ["shares", "row"], "base_figures": ["number", "m"], "die_mean": ["shares", "m"],
        "die_surely": ["shares", "m"]},
    crooked: {
        "is_reader": ["n", "told"], "is_fair": ["n", "told"], "best": ["n"], "put_out": ["row"],
        "most": ["n"], "mean_out": ["n", "share"]},
    rows: {
        "many": ["shares", "k"], "saved": ["shares", "k"], "even_mean": ["n"], "shuffle_mean": ["n"],
        "lot_mean": ["n", "k"]},
    texts: {
        "show_number": ["number"], "show_shares": ["shares"], "show_figures": ["told"],
        "show_leaves": ["leaves"], "show_machine": ["machine"], "show_tosses": ["tosses"],
        "show_table": ["table"]},
    readers: {
        "read_number": ["text"], "read_shares": ["text"], "read_figures": ["text"],
        "read_leaves": ["text"], "read_machine": ["text"], "read_tosses": ["text"],
        "read_table": ["text"]},
}
METHODS = {
    "keep": ["self", "name", "machine"], "drop": ["self", "name"], "undo": ["self"],
    "machine": ["self", "name"], "names": ["self"], "order": ["self", "text"]}
ERRORS = (
    "InvalidNumber", "InvalidShares", "InvalidFigures", "InvalidLeaves", "InvalidMachine", "InvalidRow",
    "InvalidThing", "InvalidPair", "NeverEnds", "NotDrawn", "InvalidDice", "InvalidTable", "InvalidReader",
    "NoTable", "InvalidName", "UnknownName", "NothingToUndo", "Unreadable", "Unorderly")


class Documented(unittest.TestCase):
    def run_example(self, text, many, told):
        example = doctest.DocTestParser().get_doctest(text, dict(told), "document", None, 0)
        self.assertEqual(len(example.examples), many)
        self.assertEqual(doctest.DocTestRunner().run(example).failed, 0)

    def test_examples_of_the_sections(self):
        for text, many in EXAMPLES:
            self.run_example(text, many, TOLD)

    def test_examples_of_the_readme(self):
        found = doctest.testfile(README, module_relative=False, encoding="utf-8")
        self.assertGreater(found.attempted, 0)
        self.assertEqual(found.failed, 0)

    def test_examples_in_the_points(self):
        self.assertEqual(figures.figures((1, 1)), ((1,), (0,)))
        self.assertEqual(figures.figures((1, 2)), ((0, 1), (0,)))
        self.assertEqual(figures.figures((2, 3)), ((), (0, 1)))

    def test_names_arguments_and_files(self):
        for module, calls in INTERFACE.items():
            for name, arguments in calls.items():
                self.takes(getattr(module, name), arguments)
                self.assertEqual(getattr(module, name).__module__, module.__name__, name)

    def takes(self, call, arguments):
        told = inspect.signature(call).parameters.values()
        self.assertEqual([one.name for one in told], arguments, call)
        self.assertEqual({one.kind for one in told}, {inspect.Parameter.POSITIONAL_OR_KEYWORD})
        self.assertEqual({one.default for one in told}, {inspect.Parameter.empty})

    def test_methods_that_the_class_itself_defines(self):
        self.assertEqual(consoles.Console.__module__, consoles.__name__)
        self.assertEqual(list(inspect.signature(consoles.Console).parameters), [])
        for name, arguments in METHODS.items():
            self.takes(vars(consoles.Console)[name], arguments)

    def test_errors(self):
        self.assertEqual(errors.TossError.__bases__, (ValueError,))
        for name in ERRORS:
            kind = getattr(errors, name)
            self.assertEqual((kind.__bases__, kind.__module__), ((errors.TossError,), errors.__name__))
            self.assertEqual([kind(7).value, kind(value="x").value], [7, "x"])


if __name__ == "__main__":
    unittest.main()
