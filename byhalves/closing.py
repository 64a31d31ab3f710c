"""Closed lots: the strays from which a player can go on for ever."""

from byhalves.books import made_line, part_count
from byhalves.bounds import made_bound
from byhalves.errors import BadBound, TooLarge
from byhalves.forms import number_from
from byhalves.lots import Lot
from byhalves.standings import line_stray

MOST_OFF = 2000000
MOST_TUPLES = 20000


def safe(book, line, bound, off):
    """The greatest closed lot, its tuples rising."""
    return closed_lot(book, line, bound, off).rising()


def can_keep(book, line, bound, off):
    """Whether some player keeps each part within the bound, and the line within off."""
    return closed_lot(book, line, bound, off).has(noughts(book))


def least_off(book, line, bound):
    """The least off that some player can keep with a bound; None if there is none."""
    made_line(book, line)
    made_bound(bound)
    tuples = _tuples_within(book, bound)
    lot = Lot(book, tuples)
    by_distance = _by_distance(line, tuples)
    found = None
    # What is struck for a lesser off is all that was struck for a greater one, and more.
    for distance in sorted(by_distance, reverse=True):
        if not lot.has(noughts(book)):
            return found
        found = distance
        lot.strike(by_distance[distance])
    return found


def closed_lot(book, line, bound, off):
    """The greatest closed lot, as a Lot."""
    made_line(book, line)
    made_bound(bound)
    if not number_from(off, 0, MOST_OFF):
        raise BadBound(1)
    tuples = _tuples_within(book, bound)
    return Lot(book, [strays for strays in tuples if abs(line_stray(line, strays)) <= off])


def noughts(book):
    """The strays at the beginning."""
    return (0,) * part_count(book)


def _tuples_within(book, bound):
    """All tuples of strays from -bound to bound, rising."""
    parts = part_count(book)
    many = 1
    for _ in range(parts):
        many = many * (2 * bound + 1)
    if many > MOST_TUPLES:
        raise TooLarge(many)
    tuples = [()]
    for _ in range(parts):
        tuples = [(*strays, stray) for strays in tuples for stray in range(-bound, bound + 1)]
    return tuples


def _by_distance(line, tuples):
    """The tuples by how far the line strays, up or down."""
    by_distance = {}
    for strays in tuples:
        by_distance.setdefault(abs(line_stray(line, strays)), []).append(strays)
    return by_distance
