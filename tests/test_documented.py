"""The examples of the document, as they stand there, and the names that its interface lists."""

import doctest
import inspect
import os
import unittest

from tosstrees import figures, shares

README = os.path.join(os.path.dirname(os.path.dirname(os.path.abspath(__file__))), "README.md")
SHARES = """
>>> from tosstrees.shares import both, parted, put_together, shares
>>> [shares([1, 2, 1]), put_together(((1, 4), (1, 2), (1, 4)), (0, 2)), parted(((1, 2), (1, 2)), 1, ((1, 3), (2, 3)))]
[((1, 4), (1, 2), (1, 4)), ((1, 2), (1, 2)), ((1, 2), (1, 6), (1, 3))]
"""
FIGURES = """
>>> from tosstrees.figures import cost, figure, figures, number, rest
>>> [figures((1, 3)), figures((3, 4)), number(((0,), (0, 1))), figure((1, 3), 4), cost((1, 3)), cost((3, 4)), rest((1, 3), 3)]
[((0,), (0, 1)), ((0, 1, 1), (0,)), (1, 3), 1, (8, 9), (1, 1), (2, 3)]
"""
INTERFACE = {
    shares: {
        "is_number": ["told"], "is_shares": ["told"], "shares": ["weights"],
        "put_together": ["shares", "things"], "parted": ["shares", "thing", "parts"],
        "both": ["one", "other"]},
    figures: {
        "figures": ["number"], "number": ["told"], "figure": ["number", "k"], "cost": ["number"],
        "rest": ["number", "k"]},
}


class Documented(unittest.TestCase):
    def run_example(self, name, text):
        example = doctest.DocTestParser().get_doctest(text, {}, name, None, 0)
        self.assertEqual(len(example.examples), 2)
        self.assertEqual(doctest.DocTestRunner().run(example).failed, 0)

    def test_example_of_shares(self):
        self.run_example("shares", SHARES)

    def test_example_of_figures(self):
        self.run_example("figures", FIGURES)

    def test_examples_of_the_readme(self):
        found = doctest.testfile(README, module_relative=False, encoding="utf-8")
        self.assertGreater(found.attempted, 0)
        self.assertEqual(found.failed, 0)

    def test_examples_in_the_points(self):
        self.assertEqual(figures.figures((1, 1)), ((1,), (0,)))
        self.assertEqual(figures.figures((1, 2)), ((0, 1), (0,)))
        self.assertEqual(figures.figures((2, 3)), ((), (0, 1)))

    def test_names_arguments_and_files(self):
        for module, calls in INTERFACE.items():
            for name, arguments in calls.items():
                call = getattr(module, name)
                told = inspect.signature(call).parameters.values()
                self.assertEqual([one.name for one in told], arguments, name)
                self.assertEqual({one.kind for one in told}, {inspect.Parameter.POSITIONAL_OR_KEYWORD})
                self.assertEqual({one.default for one in told}, {inspect.Parameter.empty})
                self.assertEqual(call.__module__, module.__name__, name)


if __name__ == "__main__":
    unittest.main()
