"""The forms of what statements say: parts, numbers and tests."""

from byhalves.forms import number_from

MOST_DEEP = 6
MOST_NUMBER = 1000000

JOINED_NUMBERS = ("add", "sub", "mul", "div", "mod")
NUMBERS_OF_PARTS = ("truth", "shown", "steps")
COMPARED_NUMBERS = ("eq", "less")
JOINED_TESTS = ("and", "or")


class Scope:
    """What a statement can name: parts, cells and rows, and the part of an each if it stands within one."""

    def __init__(self, parts, cells, rows, each):
        self.parts = parts
        self.cells = cells
        self.rows = rows
        self.each = each

    def inner(self):
        """The scope of what stands within an each of this one."""
        return Scope(self.parts, self.cells, self.rows, True)


def word_of(thing):
    """What thing begins with, which is to be a word; None if it is no tuple, or empty."""
    if not isinstance(thing, tuple) or len(thing) == 0:
        return None
    return thing[0]


def part_formed(scope, thing):
    """Whether thing tells a part."""
    word = word_of(thing)
    if word == "part":
        return len(thing) == 2 and number_from(thing[1], 0, scope.parts - 1)
    if word == "moved" or word == "it" and scope.each:
        return len(thing) == 1
    return False


def number_formed(scope, thing, deep=MOST_DEEP):
    """Whether thing tells a number, and is at most so deep."""
    word = word_of(thing)
    if word in JOINED_NUMBERS:
        return len(thing) == 3 and deep > 1 and all([number_formed(scope, one, deep - 1) for one in thing[1:]])
    if word in NUMBERS_OF_PARTS:
        return len(thing) == 2 and part_formed(scope, thing[1])
    if word == "num":
        return len(thing) == 2 and number_from(thing[1], 0, MOST_NUMBER)
    if word == "cell":
        return len(thing) == 2 and thing[1] in scope.cells
    if word == "row":
        return len(thing) == 3 and thing[1] in scope.rows and part_formed(scope, thing[2])
    return word == "way" and len(thing) == 1


def condition_formed(scope, thing, deep=MOST_DEEP):
    """Whether thing is a test, and is at most so deep; numbers in it have a depth of their own."""
    word = word_of(thing)
    if word in COMPARED_NUMBERS:
        return len(thing) == 3 and all([number_formed(scope, one) for one in thing[1:]])
    if word == "same":
        return len(thing) == 3 and all([part_formed(scope, one) for one in thing[1:]])
    if word == "linked":
        return len(thing) == 2 and part_formed(scope, thing[1])
    if word in JOINED_TESTS or word == "not":
        many = 2 if word == "not" else 3
        return len(thing) == many and deep > 1 and all([condition_formed(scope, one, deep - 1) for one in thing[1:]])
    return False
