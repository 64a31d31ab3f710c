"""A base of test cases that asks for errors with their what."""

import unittest


class Refusals(unittest.TestCase):
    def refused(self, error, what, function, *given, **named):
        with self.assertRaises(error) as caught:
            function(*given, **named)
        self.assertIs(type(caught.exception), error)
        self.same(caught.exception.what, what)

    def same(self, one, other):
        """Equal, also in that True and 1 are not the same."""
        self.assertEqual(repr(one), repr(other))


class TextRefusals(Refusals):
    """Asks for errors of texts in which "|" stands ahead of the word that is refused."""

    def read(self, text):
        """What the reader that is tested makes of a text."""
        raise NotImplementedError

    def wrong(self, error, marked):
        place = marked.index("|")
        text = marked[:place] + marked[place + 1:]
        self.refused(error, place, self.read, text)

    def wrongs(self, error, *texts):
        for marked in texts:
            with self.subTest(marked):
                self.wrong(error, marked)
