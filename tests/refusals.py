"""A base of test cases that asks for errors with their what."""

import unittest


class Refusals(unittest.TestCase):
    def refused(self, error, what, function, *given, **named):
        with self.assertRaises(error) as caught:
            function(*given, **named)
        self.assertIs(type(caught.exception), error)
        self.same(caught.exception.what, what)

    def same(self, one, other):
        """Equal, also in that True and 1 are not the same."""
        self.assertEqual(repr(one), repr(other))
