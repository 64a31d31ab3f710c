"""Totals that are shown as figures of their own."""

from byhalves.alike import steps_alike
from byhalves.books import made_book, part_count, total
from byhalves.errors import BadBound, NotPlain
from byhalves.forms import first_fault, number_from
from byhalves.packings import off

MOST_Q = 100


def least_own(book, q):
    """How near the figure, at most q from the sum of what is shown, can be kept to the sum of the truths."""
    steps = _own_steps(book, q)
    return max(steps // 2, off(book, total(book)) - q * steps)


def own_total(book, state, q):
    """The number at most q from the sum of what is shown that is nearest to the sum of the truths."""
    steps = _own_steps(book, q)
    truths, shown = state
    # Of two that are as near this is the lesser one.
    nearest = (sum(truths) + (steps - 1) // 2) // steps
    return max(sum(shown) - q, min(sum(shown) + q, nearest))


def _own_steps(book, q):
    """The steps of each part, of a plain book where they are all alike; q is within its limits."""
    links = made_book(book)[1]
    linked = first_fault([links[part] == (part,) for part in range(part_count(book))])
    if linked is not None:
        raise NotPlain(linked)
    steps = steps_alike(book)
    if not number_from(q, 0, MOST_Q):
        raise BadBound(0)
    return steps
