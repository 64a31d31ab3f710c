"""Halves: each part is shown as the whole number that is nearest to its truth."""

from byhalves.books import made_book, part_count
from byhalves.errors import BadTies
from byhalves.forms import first_fault, number_from, tuple_of


def halves(book, ties):
    """The player that rounds each part by itself, halves up where its tie is 1, else down."""
    made_book(book)
    parts = part_count(book)
    if not tuple_of(ties, parts):
        raise BadTies(-1)
    fault = first_fault([number_from(tie, 0, 1) for tie in ties])
    if fault is not None:
        raise BadTies(fault)
    return HalvesPlayer(book[0], ties, [0] * parts, [0] * parts)


class HalvesPlayer:
    """A player that keeps the truths and what is shown of them."""

    def __init__(self, steps, ties, truths, shown):
        self._steps = steps
        self._ties = ties
        self._truths = list(truths)
        self._shown = list(shown)

    def copy(self):
        """A player that goes on from the same truths and shown numbers."""
        return HalvesPlayer(self._steps, self._ties, self._truths, self._shown)

    def moved(self, part, way):
        """The change of the part that moved, if its nearest number is another one now."""
        self._truths[part] += way
        number = _nearest(self._truths[part], self._steps[part], self._ties[part])
        by = number - self._shown[part]
        self._shown[part] = number
        return ((part, by),) if by != 0 else ()


def _nearest(truth, steps, tie):
    """The number of units nearest to a truth; of two the upper one if tie is 1, else the lower."""
    return (truth + (steps - 1 + tie) // 2) // steps
