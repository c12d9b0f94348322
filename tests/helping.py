"""What the tests share: values that are none of what is asked, and how results are compared."""

import unittest

from outsoonest.errors import NoRoom, Refused
from outsoonest.reading import Reader


def deep(many, value=()):
    """A value within so many sequences, lists and tuples by turns."""
    for at in range(many):
        value = [value] if at % 2 else (value,)
    return value


# Any values that are no number, no text with a meaning, and no sequence with one.
STRANGE = (None, True, False, -1, -60, 10 ** 12, 256 ** 200, "", "0", "stand", "x" * 5000, deep(50), deep(50, None),
           [[None]], ((True,),), NoRoom(0), Refused((1, 2)), Reader(False), Reader)


def listed(value):
    """A value with lists for tuples, at every depth."""
    if isinstance(value, (list, tuple)):
        return [listed(part) for part in value]
    return value


def mixed(value, at=0):
    """A value with lists and tuples by turns."""
    if isinstance(value, (list, tuple)):
        parts = [mixed(part, at + 1) for part in value]
        return parts if at % 2 else tuple(parts)
    return value


def copied(value):
    """A value with sequences of its own, at every depth."""
    if isinstance(value, (list, tuple)):
        return type(value)([copied(part) for part in value])
    return value


def same(one, other):
    """Whether two values are equal, no bool being equal to an integer, no list to a tuple."""
    if isinstance(one, (list, tuple)):
        return type(one) is type(other) and len(one) == len(other) and all(map(same, one, other))
    return type(one) is type(other) and one == other


class Case(unittest.TestCase):
    """A test case that can tell errors with what they hold, and lists in the place of tuples."""

    def told(self, error, held, call, *args, **more):
        """The call raises just this error, which holds this."""
        with self.assertRaises(error) as caught:
            call(*args, **more)
        self.assertIs(type(caught.exception), error)
        (value,) = vars(caught.exception).values()
        self.assertTrue(value is held or same(value, held), (error, value, held))

    def gives(self, result, call, *args):
        """The call returns just this, also of lists for tuples, and changes nothing."""
        self.assertTrue(same(call(*args), result), (call.__name__, args, call(*args), result))
        for other in (listed, mixed):
            passed = [other(arg) for arg in args]
            kept = [copied(arg) for arg in passed]
            self.assertTrue(same(call(*passed), result), (call.__name__, passed))
            self.assertTrue(same(passed, kept), (call.__name__, "changed", kept))

    def refuses(self, error, call, args, at, values):
        """The call with each of the values in one place, or lists for their tuples, raises this error, which holds it."""
        for value in tuple(values) + tuple([listed(value) for value in values if isinstance(value, tuple)]):
            passed = list(args)
            passed[at] = value
            with self.subTest(call=call.__name__, at=at, value=repr(value)[:60]):
                self.told(error, value, call, *passed)
