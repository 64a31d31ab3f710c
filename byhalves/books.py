"""Books of parts with their steps and links, and lines of books."""

from byhalves.errors import BadBook, BadLine
from byhalves.forms import first_fault, number_from, rising_parts, tuple_of

MOST_PARTS = 6
MOST_STEPS = 60
MOST_WEIGHT = 20


def made_book(thing):
    """The book that thing is."""
    fault = _book_fault(thing)
    if fault is not None:
        raise BadBook(fault)
    return thing


def is_book(thing):
    """Whether thing is a book."""
    return _book_fault(thing) is None


def plain(steps):
    """The plain book with these steps."""
    if not isinstance(steps, tuple):
        raise BadBook(-1)
    return made_book((steps, tuple([(part,) for part in range(len(steps))])))


def made_line(book, thing):
    """The line of a book that thing is."""
    made_book(book)
    if not tuple_of(thing, part_count(book)):
        raise BadLine(-1)
    fault = first_fault([number_from(weight, -MOST_WEIGHT, MOST_WEIGHT) for weight in thing])
    if fault is not None:
        raise BadLine(fault)
    if not any(thing):
        raise BadLine(0)
    return thing


def total(book):
    """The line whose weights are all 1."""
    made_book(book)
    return (1,) * part_count(book)


def part_count(book):
    """How many parts a book has."""
    return len(book[0])


def _book_fault(thing):
    """What made_book raises of thing; None if it is a book."""
    if not _book_shaped(thing):
        return -1
    steps, links = thing
    fault = first_fault([number_from(many, 1, MOST_STEPS) for many in steps])
    if fault is not None:
        return (0, fault)
    fault = first_fault([_links_formed(len(steps), part, row) for part, row in enumerate(links)])
    if fault is not None:
        return (1, fault)
    return None


def _book_shaped(thing):
    """Whether thing is a pair of tuples alike long, of 1 to 6 entries."""
    if not tuple_of(thing, 2) or not isinstance(thing[0], tuple):
        return False
    many = len(thing[0])
    return 1 <= many <= MOST_PARTS and tuple_of(thing[1], many)


def _links_formed(parts, part, row):
    """Whether row may be the parts that are linked to this one."""
    return rising_parts(parts, row) and part in row
