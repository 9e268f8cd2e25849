"""What test cases ask of calls."""

import copy
import unittest

from nearadds.errors import NearError
from tests.worked import lists_in, same, tuples_in


class Case(unittest.TestCase):
    """A test case with questions about answers and errors."""

    def same(self, told, expected):
        """The answer is that one, its kinds too."""
        self.assertTrue(same(told, expected), f"{told!r} is not {expected!r}")

    def refused(self, kind, value, call, *passed):
        """The call raises just that error with that value, whose lists and tuples are new."""
        with self.assertRaises(NearError) as caught:
            call(*passed)
        self.assertIs(type(caught.exception), kind)
        told = caught.exception.value
        self.same(told, value)
        self.all_new(told, passed)
        mine = {id(part) for part in tuples_in(list(passed))}
        self.assertFalse([part for part in tuples_in(told) if id(part) in mine])

    def all_new(self, told, passed):
        """No list in an answer is one that was passed, and none stands in two places."""
        lists = [id(part) for part in lists_in(told)]
        self.assertEqual(len(lists), len(set(lists)))
        mine = {id(part) for part in lists_in(list(passed))}
        self.assertFalse([part for part in lists if part in mine])

    def refused_both(self, kind, value, call, names, passed):
        """The same by position and by name, in either sequence, and what is passed stays as it is."""
        before = [copied(part) for part in passed]
        self.refused(kind, value, call, *passed)
        self.refused(kind, value, lambda *parts: call(**dict(zip(names, parts))), *passed)
        self.refused(kind, value, lambda *parts: call(**dict(list(zip(names, parts))[::-1])), *passed)
        for part, earlier in zip(passed, before):
            self.same(part, earlier)

    def answers(self, expected, call, names, passed):
        """The call answers that by position and by name, and what is passed stays as it is."""
        before = [copied(part) for part in passed]
        for told in (call(*passed), call(**dict(zip(names, passed))), call(**dict(list(zip(names, passed))[::-1]))):
            self.same(told, expected)
            self.all_new(told, passed)
        for part, earlier in zip(passed, before):
            self.same(part, earlier)


def copied(value):
    """A value with its lists copied, to be looked at later."""
    if type(value) is list:
        return [copied(part) for part in value]
    if type(value) is tuple:
        return tuple(copied(part) for part in value)
    return copy.copy(value) if type(value) in (dict, set) else value
