"""Moves and histories, and the changes that players tell."""

from byhalves.books import made_book, part_count
from byhalves.errors import BadHistory
from byhalves.forms import a_number, first_fault, number_from, tuple_of


def made_history(book, thing):
    """The history of a book that thing is."""
    made_book(book)
    if not isinstance(thing, tuple):
        raise BadHistory(-1)
    parts = part_count(book)
    fault = first_fault([move_formed(parts, move) for move in thing])
    if fault is not None:
        raise BadHistory(fault)
    return thing


def history_formed(parts, thing):
    """Whether thing is a history, of a book with so many parts."""
    return isinstance(thing, tuple) and all([move_formed(parts, move) for move in thing])


def move_formed(parts, thing):
    """Whether thing is a move, of a book with so many parts."""
    if not tuple_of(thing, 2):
        return False
    part, way = thing
    return number_from(part, 0, parts - 1) and way_formed(way)


def way_formed(thing):
    """Whether thing is the way of a move."""
    return a_number(thing) and thing in (1, -1)


def changes_formed(parts, thing):
    """Whether thing is changes, of a book with so many parts, whatever its links."""
    if not isinstance(thing, tuple):
        return False
    least = 0
    for change in thing:
        if not _change_formed(change, least, parts - 1):
            return False
        least = change[0] + 1
    return True


def changes_let(book, part, changes):
    """Whether the links of a book let these changes at a move of a part."""
    return not parts_outside(book, part, changes)


def parts_outside(book, part, changes):
    """The parts of these changes that the links of a book do not let at a move of a part, rising."""
    linked = book[1][part]
    return [changed for changed, _ in changes if changed not in linked]


def _change_formed(thing, least, most):
    """Whether thing is a change of a part from least to most."""
    if not tuple_of(thing, 2):
        return False
    part, by = thing
    return number_from(part, least, most) and a_number(by) and by != 0
