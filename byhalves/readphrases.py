"""What statements say is read: parts, numbers and tests."""

from byhalves.errors import NoName, TooDeep
from byhalves.phrases import MOST_DEEP, MOST_NUMBER, NUMBERS_OF_PARTS

MOST_BRACKETS = 12
SUMS = {"+": "add", "-": "sub"}
PRODUCTS = {"*": "mul", "/": "div", "mod": "mod"}
COMPARISONS = {"=": "eq", "<": "less"}


class Phrases:
    """The way through what the statements of a publisher say.

    What can be joined further is read as a pair: what it is, and how deep that is.
    """

    def __init__(self, words, names, cells, rows):
        self._words = words
        self._names = names
        self._cells = cells
        self._rows = rows
        self._brackets = 0
        self.within_each = False

    def part(self):
        """Read what tells a part."""
        word = self._words.word()
        if word == "it" and not self.within_each:
            raise NoName(self._words.place())
        if word == "moved" or word == "it":
            return (self._words.take(),)
        return "part", self._words.part(self._names)

    def part_in_brackets(self):
        """Read what tells a part, and the brackets around it."""
        self._words.due("[")
        part = self.part()
        self._words.due("]")
        return part

    def number(self):
        """Read a sum."""
        return self._sum()[0]

    def condition(self):
        """Read a test."""
        return self._test()[0]

    def kept(self):
        """Read the name of a cell, or of a row and its part; what tells the number that is kept so."""
        place = self._words.place()
        name = self._words.name()
        if name in self._cells:
            return "cell", name
        if name in self._rows:
            return "row", name, self.part_in_brackets()
        raise NoName(place)

    def _sum(self):
        """Read products with plus and minus between them."""
        left = self._product()
        while self._words.word() in SUMS:
            place, word = self._words.place(), self._words.take()
            left = _joined(place, SUMS[word], left, self._product())
        return left

    def _product(self):
        """Read atoms with signs of products between them."""
        left = self._atom()
        while self._words.word() in PRODUCTS:
            place, word = self._words.place(), self._words.take()
            left = _joined(place, PRODUCTS[word], left, self._atom())
        return left

    def _atom(self):
        """Read a number that nothing joins, or a sum in brackets."""
        word = self._words.word()
        if word == "(":
            self._go_in()
            found = self._sum()
            self._go_out(")")
            return found
        if self._words.figures():
            return ("num", self._words.number(0, MOST_NUMBER)), 1
        if word in NUMBERS_OF_PARTS:
            return (self._words.take(), self.part_in_brackets()), 1
        if word == "way":
            return (self._words.take(),), 1
        return self.kept(), 1

    def _test(self):
        """Read both-parts with "or" between them."""
        left = self._both_part()
        while self._words.word() == "or":
            place, word = self._words.place(), self._words.take()
            left = _joined(place, word, left, self._both_part())
        return left

    def _both_part(self):
        """Read not-parts with "and" between them."""
        left = self._not_part()
        while self._words.word() == "and":
            place, word = self._words.place(), self._words.take()
            left = _joined(place, word, left, self._not_part())
        return left

    def _not_part(self):
        """Read a test that no word joins, and each "not" ahead of it, however many there are."""
        places = []
        while self._words.word() == "not":
            places.append(self._words.place())
            self._words.take()
        found = self._bare_test()
        for place in reversed(places):
            found = _joined(place, "not", found)
        return found

    def _bare_test(self):
        """Read a test with no "not" ahead of it."""
        word = self._words.word()
        if word == "{":
            self._go_in()
            found = self._test()
            self._go_out("}")
            return found
        if word == "same":
            return (self._words.take(), *self._two_parts()), 1
        if word == "linked":
            return (self._words.take(), self.part()), 1
        return self._comparison(), 1

    def _two_parts(self):
        """Read what tells a part, twice."""
        one = self.part()
        self._words.due(",")
        return one, self.part()

    def _comparison(self):
        """Read two sums and the sign between them."""
        left = self.number()
        if self._words.word() not in COMPARISONS:
            self._words.refuse()
        sign = self._words.take()
        return COMPARISONS[sign], left, self.number()

    def _go_in(self):
        """Read the bracket that stands next, if not too many are open."""
        if self._brackets == MOST_BRACKETS:
            raise TooDeep(self._words.place())
        self._brackets += 1
        self._words.take()

    def _go_out(self, bracket):
        """Read the bracket that closes the last one."""
        self._words.due(bracket)
        self._brackets -= 1


def _joined(place, word, *pairs):
    """What a word at a place joins, and how deep that is."""
    deep = 1 + max([each_deep for _, each_deep in pairs])
    if deep > MOST_DEEP:
        raise TooDeep(place)
    parts = [part for part, _ in pairs]
    return (word, *parts), deep
