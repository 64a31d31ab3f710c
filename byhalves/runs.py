"""Runs of players along histories, and how far parts and lines stray."""

from byhalves.books import made_book, made_line
from byhalves.bounds import made_bound
from byhalves.errors import Broken
from byhalves.moves import made_history
from byhalves.plays import Play
from byhalves.standings import line_stray, part_strays


def run(book, player, history):
    """The state behind a history along which a copy of the player is asked."""
    made_history(book, history)
    play = Play(book, player)
    for index, (part, way) in enumerate(history):
        if not play.step(part, way):
            raise Broken(index)
    return play.state()


def strays(book, state):
    """The stray of each part in a state."""
    made_book(book)
    truths, shown = state
    return part_strays(book[0], truths, shown)


def stray(book, line, state):
    """The stray of a line in a state."""
    made_line(book, line)
    return line_stray(line, strays(book, state))


def within(book, player, history, bound):
    """The index of the first move behind which a part strays by more than bound; or None."""
    made_history(book, history)
    made_bound(bound)
    play = Play(book, player)
    for index, (part, way) in enumerate(history):
        if not play.step(part, way):
            raise Broken(index)
        if play.beyond(bound):
            return index
    return None
