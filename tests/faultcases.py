"""A test case that looks at what an error keeps, and to which classes it belongs."""

import unittest

from firstfault.errors import FaultError


class FaultCase(unittest.TestCase):
    def check_fault(self, due, function, *given):
        """Whether the function raises an error of just this class, with just these fields."""
        with self.assertRaises(FaultError) as caught:
            function(*given)
        found = caught.exception
        self.assertIs(found.__class__, due.__class__, given)
        family = found.__class__.__bases__[0]
        self.assertTrue(isinstance(found, family) and family.__bases__ == (FaultError,))
        self.assertEqual(repr(vars(found)), repr(vars(due)), given)
        for field, thing in vars(due).items():
            if field in ("key", "state"):
                self.assertIs(getattr(found, field), thing)

    def check_same(self, found, due, told=None):
        """Whether both are the same values of the same kinds; True is not 1, and no list is a tuple."""
        self.assertEqual(repr(found), repr(due), told)
