"""What statements say is told as text: parts, numbers and tests."""

from byhalves.phrases import COMPARED_NUMBERS, JOINED_NUMBERS, JOINED_TESTS

SIGNS = {
    "add": "+", "sub": "-", "mul": "*", "div": "/", "mod": "mod", "eq": "=", "less": "<", "and": "and", "or": "or",
}
# How firmly a word holds together what it joins; what nothing joins has the level above all of its kind.
NUMBER_LEVELS = {"add": 1, "sub": 1, "mul": 2, "div": 2, "mod": 2}
LONE_NUMBER = 3
CONDITION_LEVELS = {"or": 1, "and": 2, "not": 3}
LONE_CONDITION = 4


def part_text(names, part):
    """What tells a part."""
    return names[part[1]] if part[0] == "part" else part[0]


def number_text(names, number):
    """A sum."""
    word = number[0]
    if word in JOINED_NUMBERS:
        level = NUMBER_LEVELS[word]
        left = _number_from(names, number[1], level)
        return f"{left} {SIGNS[word]} {_number_from(names, number[2], level + 1)}"
    if word == "num":
        return str(number[1])
    if word == "way":
        return word
    if word == "cell":
        return number[1]
    if word == "row":
        return kept_in_row(names, number[1], number[2])
    return kept_in_row(names, word, number[1])


def condition_text(names, condition):
    """A test."""
    word = condition[0]
    if word in JOINED_TESTS:
        level = CONDITION_LEVELS[word]
        left = _condition_from(names, condition[1], level)
        return f"{left} {SIGNS[word]} {_condition_from(names, condition[2], level + 1)}"
    if word == "not":
        return "not " + _condition_from(names, condition[1], CONDITION_LEVELS[word])
    if word in COMPARED_NUMBERS:
        return f"{number_text(names, condition[1])} {SIGNS[word]} {number_text(names, condition[2])}"
    parts = ", ".join([part_text(names, part) for part in condition[1:]])
    return f"{word} {parts}"


def kept_in_row(names, word, part):
    """The number that a row, or what else has one for each part, has for a part."""
    return f"{word}[{part_text(names, part)}]"


def _number_from(names, number, level):
    """A sum, in brackets if its level is lower than this one."""
    text = number_text(names, number)
    return text if NUMBER_LEVELS.get(number[0], LONE_NUMBER) >= level else f"({text})"


def _condition_from(names, condition, level):
    """A test, in brackets if its level is lower than this one."""
    text = condition_text(names, condition)
    return text if CONDITION_LEVELS.get(condition[0], LONE_CONDITION) >= level else "{ " + text + " }"
