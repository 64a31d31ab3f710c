"""Groups: the part that leads others is shown so that what all of them stray by is made up."""

from byhalves.alike import steps_alike
from byhalves.books import part_count
from byhalves.leads import made_leads


def grouped(book, leads):
    """The player that shows each part as its nearest whole number, and mends each group at its leader."""
    made_leads(book, leads)
    parts = part_count(book)
    return GroupedPlayer(steps_alike(book), leads, [0] * parts, [0] * parts)


class GroupedPlayer:
    """A player that keeps the truths, and for each part the sum of the strays that it has to make up."""

    def __init__(self, steps, leads, truths, sums):
        self._steps = steps
        self._leads = leads
        self._truths = list(truths)
        self._sums = list(sums)

    def copy(self):
        """A player that goes on from the same truths and sums."""
        return GroupedPlayer(self._steps, self._leads, self._truths, self._sums)

    def moved(self, part, way):
        """The changes of the part that moved and of the one that it leads, rising."""
        led = self._leads[part]
        touched = (part,) if led == part else (min(part, led), max(part, led))
        before = [self._number(one) for one in touched]
        self._sums[led] -= self._stray(part)
        self._truths[part] += way
        self._sums[led] += self._stray(part)
        changes = [(one, self._number(one) - shown) for one, shown in zip(touched, before)]
        return tuple([(one, by) for one, by in changes if by != 0])

    def _number(self, part):
        """What a part is shown as; the sum of one that leads none is 0, so it mends nothing."""
        return self._nearest(part) - (self._sums[part] + self._steps // 2) // self._steps

    def _stray(self, part):
        """What the nearest whole number of a part strays by."""
        return self._nearest(part) * self._steps - self._truths[part]

    def _nearest(self, part):
        """The number of units nearest to a part's truth, of two the lower one."""
        return (self._truths[part] + (self._steps - 1) // 2) // self._steps
