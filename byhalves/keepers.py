"""Keepers: players that stay within a closed lot with the least changes."""

from byhalves.closing import closed_lot, noughts
from byhalves.errors import NoKeeper


def keeper(book, line, bound, off):
    """The player that keeps each part within the bound, and the line within off."""
    lot = closed_lot(book, line, bound, off)
    if not lot.has(noughts(book)):
        raise NoKeeper(0)
    return KeeperPlayer(book, bound, lot, noughts(book))


class KeeperPlayer:
    """A player that keeps the strays, always a tuple of a lot; its copies share the lot, which rests."""

    def __init__(self, book, bound, lot, strays):
        self._book = book
        self._steps = book[0]
        self._bound = bound
        self._lot = lot
        self._strays = list(strays)

    def copy(self):
        """A player that goes on from the same strays."""
        return KeeperPlayer(self._book, self._bound, self._lot, self._strays)

    def moved(self, part, way):
        """The changes with the least sum of sizes that lead into the lot, of these the least."""
        self._strays[part] -= way
        linked = self._book[1][part]
        numbers = self._least_numbers(linked)
        for changed, by in zip(linked, numbers):
            self._strays[changed] += by * self._steps[changed]
        return tuple([(changed, by) for changed, by in zip(linked, numbers) if by != 0])

    def _least_numbers(self, linked):
        """A number for each linked part; some lead into the lot, as it is closed."""
        ranges = [self._range_of(part) for part in linked]
        size = 0
        found = []
        while not found:
            found = [numbers for numbers in _numbers_of(ranges, size) if self._leads_in(linked, numbers)]
            size += 1
        return found[0]

    def _range_of(self, part):
        """The least and the greatest number by which a part can change within the bound."""
        stray, steps = self._strays[part], self._steps[part]
        return -((self._bound + stray) // steps), (self._bound - stray) // steps

    def _leads_in(self, linked, numbers):
        """Whether changes by these numbers lead into the lot."""
        strays = list(self._strays)
        for part, by in zip(linked, numbers):
            strays[part] += by * self._steps[part]
        return self._lot.has(tuple(strays))


def _numbers_of(ranges, size):
    """All tuples of a number from each range whose sizes have this sum, rising."""
    room = sum([max(-least, most) for least, most in ranges])
    found = [((), size)]
    for least, most in ranges:
        room -= max(-least, most)
        # What the ranges behind cannot take has to be taken here.
        found = [
            ((*numbers, by), left - abs(by))
            for numbers, left in found
            for by in range(max(least, -left), min(most, left) + 1)
            if left - abs(by) <= room
        ]
    return [numbers for numbers, _ in found]
