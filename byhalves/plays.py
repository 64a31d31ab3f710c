"""Plays: a copy of a player is asked move by move, and what it tells is done."""

from byhalves.books import part_count
from byhalves.moves import changes_formed, changes_let


class Play:
    """The way of a copy of a player along the moves of a book, from noughts."""

    def __init__(self, book, player):
        self._book = book
        self._player = player.copy()
        self._truths = [0] * part_count(book)
        self._shown = [0] * part_count(book)

    def step(self, part, way):
        """Ask the copy about a move, and do what it tells; whether the move is not broken.

        Behind a broken move the play is over: nothing of that move is done.
        """
        changes = self._player.moved(part, way)
        if not changes_formed(part_count(self._book), changes):
            return False
        if not changes_let(self._book, part, changes):
            return False
        self._truths[part] += way
        for changed, by in changes:
            self._shown[changed] += by
        return True

    def state(self):
        """The state now: truths and shown numbers."""
        return tuple(self._truths), tuple(self._shown)

    def strays(self):
        """The stray of each part now."""
        return part_strays(self._book, self._truths, self._shown)

    def beyond(self, bound):
        """Whether some part strays by more than a bound now."""
        return any(abs(steps) > bound for steps in self.strays())


def part_strays(book, truths, shown):
    """The stray of each part: its shown number in steps, less its truth."""
    return tuple([units * steps - truth for steps, truth, units in zip(book[0], truths, shown)])


def line_stray(line, strays):
    """The stray of a line, from those of the parts."""
    return sum([weight * steps for weight, steps in zip(line, strays)])
