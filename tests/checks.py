"""A test case that compares the fields of errors, and sees whether arguments were changed."""

import copy
import unittest


class Checks(unittest.TestCase):

    def raises(self, error, fields, function, *args, **more):
        """The call raises just this error, with these fields; the arguments stay as they were."""
        kept = copy.deepcopy((args, more))
        with self.assertRaises(error) as caught:
            function(*args, **more)
        self.assertIs(caught.exception.__class__, error)
        found = tuple(vars(caught.exception).values())
        self.assertEqual(repr(found), repr(tuple(fields)))
        self.assertEqual(repr((args, more)), repr(kept))

    def gives(self, result, function, *args, **more):
        """The call returns just this, of just these kinds; the arguments stay as they were."""
        kept = copy.deepcopy((args, more))
        self.same(result, function(*args, **more))
        self.assertEqual(repr((args, more)), repr(kept))

    def same(self, result, found):
        """Equal also in the kinds of all parts: True is not 1, and no list a tuple."""
        self.assertEqual(repr(result), repr(found))
