"""What is wrong with a player, and how far lines were seen to stray."""

from byhalves.books import made_book, made_line, part_count
from byhalves.bounds import made_bound
from byhalves.errors import BadHistories, Broken
from byhalves.forms import first_fault
from byhalves.lines import first_extents, made_lines, widened
from byhalves.moves import changes_formed, history_formed, made_history, parts_outside
from byhalves.plays import Play
from byhalves.standings import line_stray


def judge(book, player, bound, history):
    """The first move of a history at which something is wrong, what it is, and with which part; or None."""
    made_book(book)
    made_bound(bound)
    made_history(book, history)
    play = Play(book, player)
    for index, (part, way) in enumerate(history):
        if not play.step(part, way):
            return (index, *_broken_by(book, part, play.answer()))
        far = play.beyond(bound)
        if far:
            return index, "stray", far[0]
    return None


def spread(book, line, player, histories):
    """The greatest and the least stray of a line behind all beginnings of some histories."""
    made_line(book, line)
    if not isinstance(histories, tuple):
        raise BadHistories(-1)
    fault = first_fault([history_formed(part_count(book), history) for history in histories])
    if fault is not None:
        raise BadHistories(fault)
    extents = first_extents(1)
    for number, history in enumerate(histories):
        try:
            extents = _widened_along(book, (line,), player, history, extents)
        except Broken as error:
            raise Broken((number, error.what))
    return extents[0]


def lines_off(book, lines, player, history):
    """The greatest and the least stray of each line behind all beginnings of a history."""
    made_lines(book, lines)
    made_history(book, history)
    return tuple(_widened_along(book, lines, player, history, first_extents(len(lines))))


def _broken_by(book, part, answer):
    """What is wrong with the answer to a broken move of a part, and with which part."""
    if not changes_formed(part_count(book), answer):
        return "form", part
    return "rule", parts_outside(book, part, answer)[0]


def _widened_along(book, lines, player, history, extents):
    """The greatest and the least strays of lines, with those behind all beginnings of a history."""
    play = Play(book, player)
    for index, (part, way) in enumerate(history):
        if not play.step(part, way):
            raise Broken(index)
        strays = play.strays()
        extents = widened(extents, [line_stray(line, strays) for line in lines])
    return extents
