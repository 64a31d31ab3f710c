"""The forms of statements, and the bodies in them."""

from byhalves.phrases import condition_formed, number_formed, part_formed, word_of

MOST_STATEMENTS = 30
MOST_BODIES = 6


def body_formed(thing):
    """Whether thing is a tuple of no more statements than a body has, whatever they are."""
    return isinstance(thing, tuple) and len(thing) <= MOST_STATEMENTS


def statement_formed(scope, thing, deep):
    """Whether thing is a statement of a body that lies so deep, whatever stands in its bodies."""
    word = word_of(thing)
    if word == "set":
        return len(thing) == 3 and thing[1] in scope.cells and number_formed(scope, thing[2])
    if word == "put":
        return len(thing) == 4 and thing[1] in scope.rows and _part_and_number(scope, thing[2:])
    if word == "show":
        return len(thing) == 3 and _part_and_number(scope, thing[1:])
    if word == "if":
        return len(thing) == 4 and condition_formed(scope, thing[1]) and _bodies_formed(thing, deep)
    if word == "each":
        return len(thing) == 2 and not scope.each and _bodies_formed(thing, deep)
    return False


def bodies_of(statement):
    """The bodies of a statement, in order."""
    if statement[0] == "if":
        return statement[2:]
    if statement[0] == "each":
        return statement[1:]
    return ()


def _part_and_number(scope, pair):
    """Whether a pair tells a part and a number."""
    return part_formed(scope, pair[0]) and number_formed(scope, pair[1])


def _bodies_formed(thing, deep):
    """Whether the bodies of what else is a statement may stand in it, in a body that lies so deep."""
    return deep < MOST_BODIES and all([body_formed(body) for body in bodies_of(thing)])
