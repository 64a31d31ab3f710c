"""Texts of publishers are read."""

from byhalves.errors import TooDeep, TooMany, Twice
from byhalves.phrases import MOST_NUMBER
from byhalves.publishers import MOST_CELLS, MOST_IN_ALL, MOST_ROWS, made_names, names_kept
from byhalves.readphrases import Phrases
from byhalves.statements import MOST_BODIES, MOST_STATEMENTS
from byhalves.words import Words


def read_publisher(book, names, text):
    """The publisher that a text tells."""
    made_names(book, names)
    words = Words(text)
    publisher = publisher_read(words, names)
    words.end()
    return publisher


def publisher_read(words, names):
    """Read a publisher."""
    cells = _kept_read(words, "cells", MOST_CELLS, names)
    cell_names = names_kept(cells)
    rows = _kept_read(words, "rows", MOST_ROWS, names + cell_names)
    phrases = Phrases(words, names, cell_names, names_kept(rows))
    return cells, rows, Statements(words, phrases).body(1)


class Statements:
    """The way through the statements of a publisher, in the order of the text, that counts them."""

    def __init__(self, words, phrases):
        self._words = words
        self._phrases = phrases
        self._many = 0

    def body(self, deep):
        """Read a body that lies so deep, up to what does not go on with it."""
        statements = []
        another = self._words.word() not in ("", "}")
        while another:
            statements.append(self._statement(len(statements), deep))
            another = self._words.reads(";")
        return tuple(statements)

    def _statement(self, ahead, deep):
        """Read a statement of a body that lies so deep, in which so many stand ahead of it."""
        words = self._words
        word = words.word()
        if word not in ("show", "if", "each") and not words.names():
            words.refuse()
        if ahead == MOST_STATEMENTS or self._many == MOST_IN_ALL:
            raise TooMany(words.place())
        self._many += 1
        if word == "show":
            return (words.take(), self._phrases.part(), self._becomes())
        if word == "if":
            return (words.take(), self._phrases.condition(), *self._branches(deep))
        if word == "each":
            return self._each(deep)
        kept = self._phrases.kept()
        return ("set" if kept[0] == "cell" else "put", *kept[1:], self._becomes())

    def _becomes(self):
        """Read ":=" and a sum."""
        self._words.due(":=")
        return self._phrases.number()

    def _branches(self, deep):
        """Read the blocks of an if; both bodies."""
        held = self._block(deep)
        if not self._words.reads("else"):
            return held, ()
        return held, self._block(deep)

    def _each(self, deep):
        """Read an each."""
        phrases = self._phrases
        if phrases.within_each:
            raise TooDeep(self._words.place())
        word = self._words.take()
        phrases.within_each = True
        body = self._block(deep)
        phrases.within_each = False
        return word, body

    def _block(self, deep):
        """Read a block that stands in a body that lies so deep."""
        place = self._words.place()
        self._words.due("{")
        if deep == MOST_BODIES:
            raise TooDeep(place)
        body = self.body(deep + 1)
        self._words.due("}")
        return body


def _kept_read(words, word, most, taken):
    """Read cells or rows, if there are any, behind their word; these names are taken."""
    if not words.reads(word):
        return ()
    kept = []
    another = True
    while another:
        place = words.place()
        name = words.name()
        if len(kept) == most:
            raise TooMany(place)
        if name in taken or name in names_kept(kept):
            raise Twice(place)
        kept.append((name, words.signed(0, MOST_NUMBER)))
        another = words.reads(",")
    words.due(";")
    return tuple(kept)
