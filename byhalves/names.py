"""Names of parts, cells and rows."""

MOST_SIGNS = 12
LETTERS = "abcdefghijklmnopqrstuvwxyz"
FIGURES = "0123456789"
RESERVED = (
    "parts", "links", "cells", "rows", "show", "if", "else", "each", "moved", "it", "truth", "shown", "steps", "way",
    "mod", "not", "and", "or", "same", "linked", "line", "up", "down", "by", "spread", "bound", "rule",
)


def name_formed(thing):
    """Whether thing is a name."""
    if not isinstance(thing, str) or not 1 <= len(thing) <= MOST_SIGNS:
        return False
    if thing[0] not in LETTERS or thing in RESERVED:
        return False
    return all([sign in LETTERS or sign in FIGURES for sign in thing])
