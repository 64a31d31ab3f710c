"""Logs: what is said to have been changed at each move."""

from byhalves.books import made_book, part_count
from byhalves.bounds import made_bound
from byhalves.errors import BadLog, Broken
from byhalves.forms import first_fault, tuple_of
from byhalves.lines import first_extents, made_lines, widened
from byhalves.moves import changes_formed, made_history, move_formed, parts_outside
from byhalves.plays import Play
from byhalves.standings import first_standing, line_stray, parts_beyond


def log_of(book, player, history):
    """The log of a run: what a copy of the player tells at each move."""
    made_history(book, history)
    play = Play(book, player)
    log = []
    for index, (part, way) in enumerate(history):
        if not play.step(part, way):
            raise Broken(index)
        log.append(((part, way), play.answer()))
    return tuple(log)


def audit(book, lines, bound, log):
    """The state behind a log, how far parts and lines strayed, and the wrongs in it."""
    made_lines(book, lines)
    made_bound(bound)
    _check_log(book, log)
    standing = first_standing(book)
    worst, offs = first_extents(part_count(book)), first_extents(len(lines))
    wrongs = []
    for index, (move, changes) in enumerate(log):
        part, way = move
        standing.move(part, way, changes)
        strays = standing.strays()
        worst = widened(worst, strays)
        offs = widened(offs, [line_stray(line, strays) for line in lines])
        wrongs.extend([(index, "rule", wrong) for wrong in parts_outside(book, part, changes)])
        wrongs.extend([(index, "stray", wrong) for wrong in parts_beyond(strays, bound)])
    return standing.state(), tuple(worst), tuple(offs), tuple(wrongs)


def fits(book, player, log):
    """The first entry at which a copy of the player tells other changes, or breaks its move; or None."""
    made_book(book)
    _check_log(book, log)
    play = Play(book, player)
    for index, (move, changes) in enumerate(log):
        part, way = move
        if not play.step(part, way) or play.answer() != changes:
            return index
    return None


def _check_log(book, thing):
    """Refuse what is no log of a book."""
    if not isinstance(thing, tuple):
        raise BadLog(-1)
    fault = first_fault([_entry_formed(part_count(book), entry) for entry in thing])
    if fault is not None:
        raise BadLog(fault)


def _entry_formed(parts, thing):
    """Whether thing is an entry of a log, of a book with so many parts."""
    return tuple_of(thing, 2) and move_formed(parts, thing[0]) and changes_formed(parts, thing[1])
