"""What the test files share."""

import unittest

from sortreason import errors


class Equal:
    """Claims to be equal to everything."""

    def __eq__(self, other):
        return True

    def __hash__(self):
        return 1


class Hostile:
    """Fails whatever is asked of it."""

    def _fail(self, *rest):
        raise RuntimeError("an argument was asked too much")

    __eq__ = __lt__ = __len__ = __iter__ = __bool__ = __getitem__ = __contains__ = _fail
    __hash__ = object.__hash__


def strange_values():
    """Values that are no integer, no string, no list, no tuple, no dict and nothing of the package."""
    return [None, True, False, b"ab", {"a"}, frozenset(), object(), range(3), 1j, iter([]), len, int,
            Equal(), Hostile(), ValueError("a"), NotImplemented, ...]


class RefusalCase(unittest.TestCase):
    """A test case that knows how the package refuses a call."""

    def refused(self, error, call, *args, **named):
        """Check that a call raises just this error, and return the error."""
        with self.assertRaises(errors.SortError) as caught:
            call(*args, **named)
        self.assertIs(type(caught.exception), error)
        self.assertIsInstance(caught.exception, ValueError)
        return caught.exception
