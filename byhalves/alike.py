"""Books whose parts have steps all alike."""

from byhalves.books import made_book
from byhalves.errors import NotAlike
from byhalves.forms import first_fault


def steps_alike(book):
    """The steps that each part of a book has."""
    steps = made_book(book)[0]
    other = first_fault([many == steps[0] for many in steps])
    if other is not None:
        raise NotAlike(other)
    return steps[0]
