"""Several lines, and how far lines and parts stray on a way."""

from byhalves.books import made_book, made_line
from byhalves.errors import BadLine


def made_lines(book, thing):
    """The lines of a book that thing is."""
    made_book(book)
    if not isinstance(thing, tuple):
        raise BadLine(-1)
    for number, line in enumerate(thing):
        try:
            made_line(book, line)
        except BadLine as error:
            raise BadLine((number, error.what))
    return thing


def first_extents(many):
    """The greatest and the least of so many strays, at the beginning."""
    return [(0, 0)] * many


def widened(extents, strays):
    """The greatest and the least of several strays, with these ones."""
    return [(max(most, steps), min(least, steps)) for (most, least), steps in zip(extents, strays)]
