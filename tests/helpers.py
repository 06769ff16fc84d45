"""What several of the tests need."""

import unittest

# What is no integer, for arguments that ask for one.
NO_INTEGERS = [None, True, False, "1", "", (1,), [1], {}, b"1", object()]

# What is no tuple of two integers, for arguments that ask for a cell, a step or a shift.
NO_PAIRS = [None, True, 5, "00", [0, 0], (), (0,), (0, 0, 0), (True, 0), (0, False), ("0", 0), (0, None), {0: 0, 1: 1}]

# Values that no checker may take for a paper.
NO_PAPERS = [
    None, True, False, 0, 1, -1, "", "alike", "parted", "least", b"alike", (), [], {}, object(), (None,), ("alike",),
    ("parted",), ("least",), ((),), (1, 2), ([], {}), ({}, []), ("", "", "", "", ""), (0, 0, 0, 0, 0),
]

GREAT = 10 ** 59


class Everything:
    """A value that says to be equal to all others."""

    def __eq__(self, other):
        return True


def same(one, other):
    """Whether two values are equal and of one class, so that True is not 1."""
    return one is other or (one.__class__ is other.__class__ and one == other)


class PlaneCase(unittest.TestCase):
    """A test case that looks at what an error bears."""

    def bears(self, error, attribute, value, function, *told, **named):
        """Check that the call raises just this error, which has this value as this attribute."""
        with self.assertRaises(error) as caught:
            function(*told, **named)
        self.assertIs(caught.exception.__class__, error)
        found = getattr(caught.exception, attribute)
        self.assertTrue(same(found, value), f"{found!r} is told for {value!r}")

    def same(self, one, other):
        """Check that two values are equal and of one class."""
        self.assertTrue(same(one, other), f"{one!r} is not {other!r}")

    def no_iteration(self, value):
        """Check that an object cannot be iterated, and has no length."""
        with self.assertRaises(TypeError):
            iter(value)
        with self.assertRaises(TypeError):
            len(value)

    def unlike_all(self, value):
        """Check that an object is equal to no value of another class."""
        for other in (None, True, 0, "", (), [], {}, object(), b""):
            self.assertIs(value == other, False)
            self.assertIs(value != other, True)
