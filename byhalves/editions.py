"""Editions: histories that grow, with what a player shows of them."""

from byhalves.errors import Broken
from byhalves.plays import Play


class Edition:
    """A history, and the log of a copy of a player along it."""

    def __init__(self, book, player):
        self._play = Play(book, player)
        self._log = []

    def take(self, moves):
        """Put moves behind the history; none of them if the rule is broken at one."""
        play = self._play.copy()
        entries = []
        for part, way in moves:
            if not play.step(part, way):
                raise Broken(len(self._log) + len(entries))
            entries.append(((part, way), play.answer()))
        self._play = play
        self._log.extend(entries)

    def many(self):
        """How many moves it has."""
        return len(self._log)

    def history(self):
        """Its moves."""
        return tuple([move for move, _ in self._log])

    def log(self):
        """Its moves, each with the changes that the player told."""
        return tuple(self._log)

    def state(self):
        """Truths and shown numbers behind its last move."""
        return self._play.state()
