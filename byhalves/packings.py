"""Packings: parts that are apart, and how far they drive a line apart together."""

from byhalves.books import made_line
from byhalves.gaps import line_gaps


def packing(book, line):
    """The least tuple of parts that are apart with the greatest sum of gaps, and this sum."""
    made_line(book, line)
    gaps = line_gaps(book, line)
    best, most = (), 0
    # The lots go from the least tuple up, so of several with the same sum the least one stays.
    for lot in sorted(_lots_apart(book[1], gaps)):
        worth = sum([gaps[part] for part in lot])
        if worth > most:
            best, most = lot, worth
    return best, most


def reach(book, line):
    """The sum of the gaps of the packing."""
    return packing(book, line)[1]


def off(book, line):
    """Half of the reach, rounded up."""
    return (reach(book, line) + 1) // 2


def _lots_apart(links, gaps):
    """All rising tuples of parts with gaps above 0 that are apart."""
    lots = [()]
    for part, worth in enumerate(gaps):
        if worth > 0:
            lots = lots + [(*lot, part) for lot in lots if _apart_from(links, lot, part)]
    return lots


def _apart_from(links, lot, part):
    """Whether a part has no linked part in common with any part of a lot."""
    return not any([linked in links[other] for other in lot for linked in links[part]])
