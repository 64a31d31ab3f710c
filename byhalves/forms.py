"""The forms that values have: numbers, tuples, parts."""


def a_number(thing):
    """Whether thing is a number: an int that is neither True nor False."""
    return isinstance(thing, int) and not isinstance(thing, bool)


def number_from(thing, least, most):
    """Whether thing is a number from least to most."""
    return a_number(thing) and least <= thing <= most


def tuple_of(thing, many):
    """Whether thing is a tuple of just so many."""
    return isinstance(thing, tuple) and len(thing) == many


def numbers_formed(thing, many):
    """Whether thing is a tuple of just so many numbers."""
    return tuple_of(thing, many) and all([a_number(one) for one in thing])


def rising_parts(parts, thing):
    """Whether thing is a rising tuple of parts, of a book with so many parts."""
    if not isinstance(thing, tuple):
        return False
    least = 0
    for part in thing:
        if not number_from(part, least, parts - 1):
            return False
        least = part + 1
    return True


def first_fault(flags):
    """The first index at which something is not right; None if all is."""
    for index, right in enumerate(flags):
        if not right:
            return index
    return None
