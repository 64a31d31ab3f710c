"""Doings: what a publisher does at one move."""

from byhalves.phrases import COMPARED_NUMBERS, JOINED_NUMBERS

MOST_SIZE = 1000000000000


def behind(book, publisher, state, part, way):
    """The state behind a move, and None; at a fault the state ahead of it, and the place of the statement."""
    doing = Doing(book, publisher, state, part, way)
    place = doing.fault_in(publisher[2], ())
    return (doing.state(), None) if place is None else (state, place)


class Doing:
    """One move of a publisher: what it sets, puts and shows is read by what it does behind that.

    A number or a test in which there is a fault is told as None.
    """

    def __init__(self, book, publisher, state, part, way):
        truths, shown, cells, rows = state
        self._steps = book[0]
        self._linked = book[1][part]
        self._moved = part
        self._way = way
        self._it = None
        self._truths = list(truths)
        self._truths[part] += way
        self._shown = list(shown)
        self._cells = {kept[0]: number for kept, number in zip(publisher[0], cells)}
        self._rows = {kept[0]: list(numbers) for kept, numbers in zip(publisher[1], rows)}

    def state(self):
        """The state now; cells and rows keep the order in which the publisher has them."""
        cells = tuple([self._cells[name] for name in self._cells])
        rows = tuple([tuple(self._rows[name]) for name in self._rows])
        return tuple(self._truths), tuple(self._shown), cells, rows

    def fault_in(self, body, place):
        """Do a body that stands at a place; the place of the statement with a fault, None if there is none."""
        for index, statement in enumerate(body):
            fault = self._fault_at(statement, (*place, index))
            if fault is not None:
                return fault
        return None

    def _fault_at(self, statement, place):
        """Do a statement; the place of the one with a fault, itself or one in its bodies, or None."""
        if statement[0] == "each":
            return self._fault_in_each(statement[1], (*place, 0))
        if statement[0] == "if":
            held = self._holds(statement[1])
            if held is None:
                return place
            number = 0 if held else 1
            return self.fault_in(statement[2 + number], (*place, number))
        worth = self._number(statement[-1])
        if worth is None:
            return place
        self._keep(statement, worth)
        return None

    def _fault_in_each(self, body, place):
        """Do a body for each part in order."""
        for part in range(len(self._steps)):
            self._it = part
            fault = self.fault_in(body, place)
            if fault is not None:
                return fault
        return None

    def _keep(self, statement, worth):
        """Set, put or show a number."""
        if statement[0] == "set":
            self._cells[statement[1]] = worth
        elif statement[0] == "put":
            self._rows[statement[1]][self._part(statement[2])] = worth
        else:
            self._shown[self._part(statement[1])] = worth

    def _part(self, phrase):
        """The part that is told."""
        if phrase[0] == "part":
            return phrase[1]
        return self._moved if phrase[0] == "moved" else self._it

    def _number(self, phrase):
        """The number that is told; each number within it is asked, too, whether it is beyond the most."""
        worth = self._joined(phrase) if phrase[0] in JOINED_NUMBERS else self._read(phrase)
        return None if worth is None or abs(worth) > MOST_SIZE else worth

    def _joined(self, phrase):
        """The number that is joined from two, before its size is asked."""
        word, one, other = phrase[0], self._number(phrase[1]), self._number(phrase[2])
        if one is None or other is None:
            return None
        if word == "add":
            return one + other
        if word == "sub":
            return one - other
        if word == "mul":
            return one * other
        if other <= 0:
            return None
        return one // other if word == "div" else one % other

    def _read(self, phrase):
        """The number that is read, before its size is asked."""
        word = phrase[0]
        if word == "num":
            return phrase[1]
        if word == "way":
            return self._way
        if word == "cell":
            return self._cells[phrase[1]]
        if word == "row":
            return self._rows[phrase[1]][self._part(phrase[2])]
        part = self._part(phrase[1])
        if word == "truth":
            return self._truths[part]
        return self._shown[part] if word == "shown" else self._steps[part]

    def _holds(self, phrase):
        """Whether a test holds; all its parts are looked at, whatever the first of them tells."""
        word = phrase[0]
        if word in COMPARED_NUMBERS:
            return _compared(word, self._number(phrase[1]), self._number(phrase[2]))
        if word == "same":
            return self._part(phrase[1]) == self._part(phrase[2])
        if word == "linked":
            return self._part(phrase[1]) in self._linked
        held = [self._holds(one) for one in phrase[1:]]
        if None in held:
            return None
        if word == "not":
            return not held[0]
        return all(held) if word == "and" else any(held)


def _compared(word, one, other):
    """Whether two numbers are alike, or the first is less; None if there is a fault in either."""
    if one is None or other is None:
        return None
    return one == other if word == "eq" else one < other
