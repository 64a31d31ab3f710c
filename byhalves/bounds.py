"""Bounds of strays."""

from byhalves.errors import BadBound
from byhalves.forms import number_from

MOST_BOUND = 10000


def made_bound(thing):
    """The bound of strays that thing is."""
    if not number_from(thing, 0, MOST_BOUND):
        raise BadBound(0)
    return thing
