"""Names of parts, and publishers: programs of what is kept and what is done at a move."""

from byhalves.books import made_book, part_count
from byhalves.errors import BadNames, BadPublisher, TooMany
from byhalves.forms import first_fault, number_from, tuple_of
from byhalves.names import name_formed
from byhalves.phrases import MOST_NUMBER, Scope
from byhalves.statements import bodies_of, body_formed, statement_formed

MOST_CELLS = 8
MOST_ROWS = 4
MOST_IN_ALL = 100


def made_names(book, names):
    """The names of the parts of a book that names are."""
    made_book(book)
    if not tuple_of(names, part_count(book)):
        raise BadNames(-1)
    fault = first_fault([name_formed(name) and name not in names[:part] for part, name in enumerate(names)])
    if fault is not None:
        raise BadNames(fault)
    return names


def made_publisher(book, names, thing):
    """The publisher that thing is."""
    made_names(book, names)
    if not tuple_of(thing, 3):
        raise BadPublisher((-1,))
    cells, rows, body = thing
    fault = _kept_fault(cells, MOST_CELLS, names)
    if fault is not None:
        raise BadPublisher((0, fault))
    cell_names = names_kept(cells)
    fault = _kept_fault(rows, MOST_ROWS, names + cell_names)
    if fault is not None:
        raise BadPublisher((1, fault))
    if not body_formed(body):
        raise BadPublisher((2, (-1,)))
    Survey().look(Scope(part_count(book), cell_names, names_kept(rows), False), body, 1, ())
    return thing


def names_kept(kept):
    """The names of cells, or of rows."""
    return tuple([name for name, _ in kept])


class Survey:
    """A way through the statements of a publisher, in the order of the text, that counts them."""

    def __init__(self):
        self._many = 0

    def look(self, scope, body, deep, place):
        """Look at the statements of a body that lies so deep at a place, and at all in their bodies."""
        for index, statement in enumerate(body):
            self._many += 1
            if self._many > MOST_IN_ALL:
                raise TooMany(self._many)
            here = (*place, index)
            if not statement_formed(scope, statement, deep):
                raise BadPublisher((2, here))
            inner = scope.inner() if statement[0] == "each" else scope
            for number, lower in enumerate(bodies_of(statement)):
                self.look(inner, lower, deep + 1, (*here, number))


def _kept_fault(thing, most, taken):
    """What is wrong with cells, or with rows, where these names are taken; None if nothing is."""
    if not isinstance(thing, tuple) or len(thing) > most:
        return -1
    names = list(taken)
    for index, kept in enumerate(thing):
        if not _kept_formed(kept) or kept[0] in names:
            return index
        names.append(kept[0])
    return None


def _kept_formed(thing):
    """Whether thing is a name and a start."""
    return tuple_of(thing, 2) and name_formed(thing[0]) and number_from(thing[1], -MOST_NUMBER, MOST_NUMBER)
