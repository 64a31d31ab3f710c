"""Plays: a copy of a player is asked move by move, and what it tells is done."""

from byhalves.books import part_count
from byhalves.moves import changes_formed, changes_let
from byhalves.standings import first_standing, parts_beyond


class Play:
    """The way of a copy of a player along the moves of a book, from noughts."""

    def __init__(self, book, player):
        self._book = book
        self._player = player.copy()
        self._standing = first_standing(book)
        self._answer = ()

    def copy(self):
        """A play that goes on from here; what is asked of the one is not asked of the other."""
        other = Play(self._book, self._player)
        other._standing = self._standing.copy()
        return other

    def step(self, part, way):
        """Ask the copy about a move, and do what it tells; whether the move is not broken.

        Behind a broken move the play is over: nothing of that move is done.
        """
        self._answer = self._player.moved(part, way)
        if not changes_formed(part_count(self._book), self._answer):
            return False
        if not changes_let(self._book, part, self._answer):
            return False
        self._standing.move(part, way, self._answer)
        return True

    def answer(self):
        """What the copy told at the last move, whatever it is."""
        return self._answer

    def state(self):
        """The state now: truths and shown numbers."""
        return self._standing.state()

    def strays(self):
        """The stray of each part now."""
        return self._standing.strays()

    def beyond(self, bound):
        """The parts that stray by more than a bound now, rising."""
        return parts_beyond(self.strays(), bound)
