"""Gaps: how far a part alone can drive a line apart."""

from math import gcd

from byhalves.books import made_line, part_count
from byhalves.errors import BadPart
from byhalves.forms import number_from


def gap(book, line, i):
    """The gap of part i in a line."""
    made_line(book, line)
    if not number_from(i, 0, part_count(book) - 1):
        raise BadPart(i)
    return line_gaps(book, line)[i]


def line_gaps(book, line):
    """The gap of each part in a line."""
    return [_gap_of(book, line, part) for part in range(part_count(book))]


def _gap_of(book, line, part):
    """What the changes at a move of a part add to the line is a multiple of the common
    divisor, the truth's step is the weight: the gap is what lies between the two."""
    steps, links = book
    common = 0
    for linked in links[part]:
        common = gcd(common, line[linked] * steps[linked])
    weight = abs(line[part])
    return max(0, common - weight) if weight != 0 else 0
