"""Rows of a desk are read."""

from byhalves.readbooks import WAYS, history_read, line_read, way_read
from byhalves.reader import publisher_read
from byhalves.words import Words


def read_row(names, text):
    """What a row tells: a word, and what it is to be done with or asked of."""
    words = Words(text)
    row = _row_read(words, names)
    words.end()
    return row


def _row_read(words, names):
    """Read a row; one that begins with none of these words is about a feed."""
    word = words.word()
    if word == "publisher" or word == "line":
        return _kept_read(words, names)
    if word == "open":
        return words.take(), words.name(), words.name()
    if word == "break":
        return words.take(), words.name(), words.name(), words.any_number()
    if word == "off" or word == "spread":
        return words.take(), words.name()
    return _feed_read(words, names)


def _kept_read(words, names):
    """Read what is to be kept by a word."""
    kind = words.take()
    word = words.name()
    words.due(":")
    return kind, word, publisher_read(words, names) if kind == "publisher" else line_read(words, names)


def _feed_read(words, names):
    """Read what is to be done with a feed, or asked of it."""
    feed = words.name()
    if words.word() in WAYS:
        way = way_read(words)
        part = words.part(names)
        return "move", feed, part, way, words.any_number() if words.figures() else 1
    if words.reads("correct"):
        index = words.any_number()
        words.due(":")
        return "correct", feed, index, history_read(words, names)
    if words.reads("report"):
        return "report", feed
    words.due("audit")
    return "audit", feed, words.any_number()
