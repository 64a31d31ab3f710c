"""The breaker: histories behind which a player, whatever it is, does not keep a line."""

from byhalves.books import made_line
from byhalves.bounds import made_bound
from byhalves.errors import TooLarge
from byhalves.gaps import line_gaps
from byhalves.packings import packing
from byhalves.plays import Play
from byhalves.runs import run, stray

MOST_ROUNDS = 100000


def breaker(book, line, player, bound):
    """A right paper about this player, line and bound."""
    made_line(book, line)
    made_bound(bound)
    parts = packing(book, line)[0]
    rounds = _rounds(book, line, parts, bound)
    if rounds > MOST_ROUNDS:
        raise TooLarge(rounds)
    return Drive(book, line, player, bound).paper(parts)


def off_history(book, line, player, bound):
    """A history that breaks the rule or the bound, or behind which the line is off at least."""
    paper = breaker(book, line, player, bound)
    if paper[0] != "spread":
        return paper[1]
    # Of two that are as far max takes the first one.
    return max(paper[1:], key=lambda history: abs(stray(book, line, run(book, player, history))))


class Drive:
    """One ever longer history, along which a copy of a player is driven until something shows.

    Both histories of a spread are beginnings of it, so nothing is ever taken back.
    """

    def __init__(self, book, line, player, bound):
        self._links = book[1]
        self._line = line
        self._bound = bound
        self._gaps = line_gaps(book, line)
        self._play = Play(book, player)
        self._history = []
        self._weighted = [0] * len(line)
        self._line_strays = [0]
        self._broken = None

    def paper(self, parts):
        """The paper that shows when the line is driven down by these parts, which are apart."""
        start = self._driven(parts)
        history = tuple(self._history)
        if self._broken is not None:
            return self._broken, history
        return "spread", history[:start], history

    def _driven(self, parts):
        """Drive the line down by the gaps of these parts; the length of the history ahead of the fall.

        While the others are driven, the strays over the links of the one part rest. Each time one
        of its moves does not let their sum fall, the sum stands higher than it began, as a rise is
        the gap at least; so the bound is passed some day, if the line does not fall before.
        """
        if not parts:
            return len(self._history)
        part, others = parts[0], parts[1:]
        fall = sum([self._gaps[i] for i in parts])
        start = self._driven(others)
        while not self._over(start, fall):
            if not self._fallen_by(part):
                start = self._driven(others)
        return start

    def _over(self, start, fall):
        """Whether the rule or the bound is broken, or the line fell so far since the start."""
        return self._broken is not None or self._line_strays[start] - self._line_strays[-1] >= fall

    def _fallen_by(self, part):
        """Move a part so that its own weighted stray falls; whether the sum over its links falls."""
        before = self._sum_over(part)
        way = 1 if self._line[part] > 0 else -1
        self._history.append((part, way))
        if not self._play.step(part, way):
            self._broken = "rule"
        elif self._play.beyond(self._bound):
            self._broken = "bound"
        self._weighted = [weight * steps for weight, steps in zip(self._line, self._play.strays())]
        self._line_strays.append(sum(self._weighted))
        return self._sum_over(part) < before

    def _sum_over(self, part):
        """The sum of the weighted strays over the parts that are linked to a part."""
        return sum([self._weighted[linked] for linked in self._links[part]])


def _rounds(book, line, parts, bound):
    """How many rounds the search may need, for a packing with these parts."""
    rounds = 1
    for part in parts:
        weights = sum([abs(line[linked]) for linked in book[1][part]])
        rounds = rounds * (2 * bound * weights + 2)
    return rounds
