"""Tables, and the players that go by them."""

from byhalves.books import made_book, part_count
from byhalves.errors import BadTable
from byhalves.forms import first_fault, number_from, tuple_of
from byhalves.moves import changes_formed

MOST_ROWS = 40
MOST_BY = 9


def made_table(book, thing):
    """The table for a book that thing is."""
    made_book(book)
    if not isinstance(thing, tuple) or not 1 <= len(thing) <= MOST_ROWS:
        raise BadTable(-1)
    parts = part_count(book)
    for index, row in enumerate(thing):
        if not tuple_of(row, 2 * parts):
            raise BadTable((index, -1))
        fault = first_fault([_entry_formed(parts, len(thing), entry) for entry in row])
        if fault is not None:
            raise BadTable((index, fault))
    return thing


def table_player(book, table):
    """The player that goes by a table, from its row 0 on."""
    return TablePlayer(made_table(book, table), 0)


class TablePlayer:
    """A player that stands at a row of a table."""

    def __init__(self, table, at):
        self._table = table
        self._at = at

    def copy(self):
        """A player that goes on from the same row."""
        return TablePlayer(self._table, self._at)

    def moved(self, part, way):
        """The changes of the entry for this move; the next row is where it stands then."""
        entry = 2 * part if way == 1 else 2 * part + 1
        changes, self._at = self._table[self._at][entry]
        return changes


def _entry_formed(parts, rows, thing):
    """Whether thing is an entry of a table with so many rows."""
    if not tuple_of(thing, 2):
        return False
    changes, row = thing
    if not changes_formed(parts, changes) or not number_from(row, 0, rows - 1):
        return False
    return all(abs(change[1]) <= MOST_BY for change in changes)
