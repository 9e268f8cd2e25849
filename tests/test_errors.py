"""Promise 3: the error classes."""

import inspect
import unittest

from nearadds import errors
from tests.worked import Odd

NAMES = (
    "InvalidModulus InvalidRule InvalidProgram InvalidRow InvalidRound InvalidNumber InvalidFactor InvalidLooks "
    "InvalidCells InvalidWalls Unlike NoRule NoRow Unreadable InvalidCommand Nothing NoPart NotReady"
).split()


class Errors(unittest.TestCase):

    def all_classes(self):
        return [errors.NearError] + [getattr(errors, name) for name in NAMES]

    def test_near_error_stands_directly_under_value_error(self):
        self.assertEqual(errors.NearError.__bases__, (ValueError,))

    def test_all_others_stand_directly_under_near_error(self):
        self.assertEqual(len(NAMES), 18)
        for name in NAMES:
            self.assertEqual(getattr(errors, name).__bases__, (errors.NearError,))

    def test_all_are_classes_of_this_file_and_there_are_no_others(self):
        found = [name for name, value in vars(errors).items() if inspect.isclass(value)]
        self.assertEqual(sorted(found), sorted(NAMES + ["NearError"]))
        for kind in self.all_classes():
            self.assertEqual(kind.__module__, "nearadds.errors")
        self.assertEqual([kind.__name__ for kind in self.all_classes()], ["NearError"] + NAMES)

    def test_the_argument_itself_is_stored_whatever_it_is(self):
        for kind in self.all_classes():
            for value in (None, True, 0, -1, "text", [1, [2]], (1, [2]), {}, {1: [2]}, set(), object(), Odd(), kind):
                self.assertIs(kind(value).value, value)
                self.assertIs(kind(value=value).value, value)

    def test_a_stored_list_is_not_copied_or_changed(self):
        told = [1, [2]]
        for kind in self.all_classes():
            error = kind(told)
            self.assertIs(error.value[1], told[1])
            self.assertEqual(told, [1, [2]])

    def test_just_one_argument_is_taken(self):
        for kind in self.all_classes():
            for passed in ((), (1, 2)):
                with self.assertRaises(TypeError):
                    kind(*passed)
            with self.assertRaises(TypeError):
                kind(modulus=1)
            with self.assertRaises(TypeError):
                kind(1, value=1)

    def test_each_is_raised_and_caught_as_itself_and_as_a_near_error(self):
        for kind in self.all_classes():
            for caught in (kind, errors.NearError, ValueError):
                with self.assertRaises(caught) as told:
                    raise kind(7)
                self.assertIs(type(told.exception), kind)
                self.assertEqual(told.exception.value, 7)
