"""Papers: histories that show what a player does not keep."""

from byhalves.books import made_line, part_count
from byhalves.bounds import made_bound
from byhalves.errors import Refused
from byhalves.moves import history_formed
from byhalves.packings import reach
from byhalves.plays import Play
from byhalves.standings import line_stray

# How many histories stand behind each word of a paper.
HISTORIES = {"spread": 2, "bound": 1, "rule": 1}


def paper_right(book, line, player, bound, paper):
    """Whether paper is a right one about this player, line and bound."""
    if not _question_formed(book, line, bound) or not paper_formed(part_count(book), paper):
        return False
    word, history = paper[0], paper[1]
    if word == "spread":
        return _spread_shown(book, line, player, history, paper[2])
    asked = bound if word == "bound" else None
    return _first_wrong(book, player, asked, history) == (word, len(history) - 1)


def paper_formed(parts, thing):
    """Whether thing is a word and as many histories as it needs, of a book with so many parts."""
    if not isinstance(thing, tuple) or len(thing) == 0:
        return False
    word = thing[0]
    if not isinstance(word, str) or HISTORIES.get(word) != len(thing) - 1:
        return False
    return all([history_formed(parts, history) for history in thing[1:]])


def _question_formed(book, line, bound):
    """Whether these are a book, a line of it and a bound."""
    try:
        made_line(book, line)
        made_bound(bound)
    except Refused:
        return False
    return True


def _spread_shown(book, line, player, first, second):
    """Whether no rule is broken, and the line strays by its reach more behind the first history."""
    greater = _stray_behind(book, line, player, first)
    if greater is None:
        return False
    less = _stray_behind(book, line, player, second)
    return less is not None and greater - less >= reach(book, line)


def _stray_behind(book, line, player, history):
    """The stray of the line behind a history; None if the rule is broken in it."""
    play = Play(book, player)
    for part, way in history:
        if not play.step(part, way):
            return None
    return line_stray(line, play.strays())


def _first_wrong(book, player, bound, history):
    """The word and the index of the first move that breaks the rule, or the bound unless it is None."""
    play = Play(book, player)
    for index, (part, way) in enumerate(history):
        if not play.step(part, way):
            return "rule", index
        if bound is not None and play.beyond(bound):
            return "bound", index
    return None
