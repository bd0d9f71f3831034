"""The error classes: how they are made, what they tell, what they are caught by."""

import copy
import unittest

from tosstrees import errors

NAMES = (
    "InvalidNumber", "InvalidShares", "InvalidFigures", "InvalidLeaves", "InvalidMachine",
    "InvalidRow", "InvalidThing", "InvalidPair", "NeverEnds", "NotDrawn", "InvalidDice",
    "InvalidTable", "InvalidReader", "NoTable", "InvalidName", "UnknownName", "NothingToUndo",
    "Unreadable", "Unorderly")
VALUES = (
    0, 1, -7, 10 ** 5000, "", "a text", True, False, (), (1, 2), ((1, 2), (1, 3)), [], [1, [2]],
    None, {"a": 1}, b"ab")


class ErrorClasses(unittest.TestCase):
    def all_classes(self):
        return [errors.TossError] + [getattr(errors, name) for name in NAMES]

    def test_there_are_just_these_classes(self):
        found = [name for name, value in vars(errors).items() if isinstance(value, type)]
        self.assertEqual(sorted(found), sorted(NAMES + ("TossError",)))
        self.assertEqual(len(NAMES), 19)
        for kind in self.all_classes():
            self.assertEqual(kind.__module__, "tosstrees.errors")

    def test_each_one_stands_right_below_toss_error(self):
        self.assertEqual(errors.TossError.__bases__, (ValueError,))
        for name in NAMES:
            self.assertEqual(getattr(errors, name).__bases__, (errors.TossError,), name)

    def test_the_value_by_position_and_by_name(self):
        for kind in self.all_classes():
            for value in VALUES:
                self.assertIs(kind(value).value, value)
                self.assertIs(kind(value=value).value, value)

    def test_the_value_is_kept_as_it_was(self):
        for kind in self.all_classes():
            handed = [1, [2, 3]]
            kind(handed)
            self.assertEqual(handed, [1, [2, 3]])

    def test_one_argument_and_no_other(self):
        for kind in self.all_classes():
            for told, named in (((), {}), ((1, 2), {}), ((1,), {"value": 1}), ((), {"worth": 1})):
                with self.assertRaises(TypeError):
                    kind(*told, **named)

    def test_what_it_is_caught_by(self):
        for kind in self.all_classes():
            for catcher in (kind, errors.TossError, ValueError, Exception):
                try:
                    raise kind(5)
                except catcher as error:
                    self.assertIs(type(error), kind)
                    self.assertEqual(error.value, 5)

    def test_what_it_is_not_caught_by(self):
        others = [getattr(errors, name) for name in NAMES]
        others += [TypeError, LookupError, ArithmeticError, RuntimeError]
        for kind in self.all_classes():
            for other in others:
                self.assertEqual(issubclass(kind, other), kind is other, (kind, other))

    def test_two_errors_have_values_of_their_own(self):
        one, other = errors.InvalidShares(1), errors.InvalidShares(2)
        self.assertEqual((one.value, other.value), (1, 2))

    def test_a_copy_has_the_value(self):
        for kind in self.all_classes():
            self.assertEqual(copy.copy(kind(value=(1, 2))).value, (1, 2))


if __name__ == "__main__":
    unittest.main()
