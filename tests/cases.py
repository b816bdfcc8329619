"""What the tests of several files have in common."""

import time
import unittest

from basetrees.errors import NoChoice


class Case(unittest.TestCase):
    def caught(self, kind, call, args, more):
        """The error that the call raises, which is of just this kind."""
        with self.assertRaises(kind) as caught:
            call(*args, **more)
        self.assertIs(type(caught.exception), kind)
        return caught.exception

    def assert_gives(self, kind, value, call, /, *args, **more):
        """The call raises just this error, with this very value."""
        self.assertIs(self.caught(kind, call, args, more).given, value)

    def assert_index(self, kind, index, call, /, *args, **more):
        """The call raises just this error, with this index."""
        found = self.caught(kind, call, args, more).index
        self.assertIs(type(found), type(index))
        self.assertEqual(found, index)

    def assert_error(self, error, call, /, *args, **more):
        """The call raises an error of the same class, with the same attributes."""
        found = vars(self.caught(type(error), call, args, more))
        self.assertEqual(list(found), list(vars(error)))
        for name, value in vars(error).items():
            if name == "given":
                self.assertIs(found[name], value)
            else:
                self.assertEqual((type(found[name]), found[name]), (type(value), value))

    def assert_no_choice(self, call, /, *args, **more):
        self.caught(NoChoice, call, args, more)

    def assert_tuples_of_names(self, value):
        """It is a tuple of strings, or of such tuples, nested in any way; and no list is in it."""
        self.assertIs(type(value), tuple)
        for part in value:
            if type(part) is not str:
                self.assert_tuples_of_names(part)


def least_time(call, times):
    """The least time in seconds that a call takes."""
    found = []
    for _ in range(times):
        start = time.perf_counter()
        call()
        found.append(time.perf_counter() - start)
    return min(found)
