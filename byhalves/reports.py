"""Reports: what a state shows, what is true, and how far that is off."""

from math import gcd

from byhalves.books import part_count
from byhalves.errors import BadState
from byhalves.forms import numbers_formed, tuple_of
from byhalves.lines import made_lines
from byhalves.publishers import made_names
from byhalves.standings import line_stray, part_strays


def report(book, names, lines, state):
    """A text about each part, then one about each line."""
    made_names(book, names)
    made_lines(book, lines)
    if not _state_formed(part_count(book), state):
        raise BadState(0)
    steps, (truths, shown) = book[0], state
    strays = part_strays(steps, truths, shown)
    texts = [
        f"{name} {_units(units, truth, stray, many)}"
        for name, units, truth, stray, many in zip(names, shown, truths, strays, steps)
    ]
    for number, line in enumerate(lines):
        texts.append(f"line {number}: {_line_text(line, steps, state, line_stray(line, strays))}")
    return tuple(texts)


def _line_text(line, steps, state, stray):
    """What is told of a line; in units only if they are the same for all parts."""
    if min(steps) != max(steps):
        return f"off {stray} steps"
    truths, shown = state
    return _units(line_stray(line, shown), line_stray(line, truths), stray, steps[0])


def _units(shown, truth, stray, steps):
    """A shown number, and a truth and a stray that are given in steps."""
    return f"shown {shown} true {_fraction(truth, steps)} off {_fraction(stray, steps)}"


def _fraction(upper, lower):
    """A fraction in lowest terms, or a whole number."""
    common = gcd(upper, lower)
    if common == lower:
        return str(upper // lower)
    return f"{upper // common}/{lower // common}"


def _state_formed(parts, thing):
    """Whether thing is a state of a book with so many parts."""
    return tuple_of(thing, 2) and all([numbers_formed(numbers, parts) for numbers in thing])
