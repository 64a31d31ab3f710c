"""Texts of books, lines, histories and papers are read."""

from byhalves.books import MOST_PARTS, MOST_STEPS, MOST_WEIGHT
from byhalves.errors import TooMany, Twice
from byhalves.papers import HISTORIES
from byhalves.publishers import made_names
from byhalves.words import Words

MOST_MOVES = 5000
WAYS = {"up": 1, "down": -1}


def read_book(text):
    """The names and the book that a text tells."""
    words = Words(text)
    words.due("parts")
    names, steps = _parts_read(words)
    links = _links_read(words, names)
    words.end()
    return names, (steps, links)


def read_line(book, names, text):
    """The line that a text tells."""
    made_names(book, names)
    words = Words(text)
    line = line_read(words, names)
    words.end()
    return line


def read_history(book, names, text):
    """The history that a text tells."""
    made_names(book, names)
    words = Words(text)
    history = history_read(words, names)
    words.end()
    return history


def read_paper(book, names, text):
    """The paper that a text tells, whatever it is about."""
    made_names(book, names)
    words = Words(text)
    if words.word() not in HISTORIES:
        words.refuse()
    word = words.take()
    paper = [word, history_read(words, names)]
    while len(paper) <= HISTORIES[word]:
        words.due("/")
        paper.append(history_read(words, names))
    words.end()
    return tuple(paper)


def line_read(words, names):
    """Read a line."""
    words.due("line")
    weights = {}
    another = True
    while another:
        weight = words.signed(1, MOST_WEIGHT)
        part = _unlike_part_read(words, names, weights)
        weights[part] = weight
        another = words.reads(",")
    return tuple([weights.get(part, 0) for part in range(len(names))])


def history_read(words, names):
    """Read a history; an empty one where no name stands."""
    moves = []
    another = words.names()
    while another:
        place = words.place()
        turn = _turn_read(words, names)
        if len(moves) + len(turn) > MOST_MOVES:
            raise TooMany(place)
        moves.extend(turn)
        another = words.reads(",")
    return tuple(moves)


def way_read(words):
    """Read the way of a move."""
    if words.word() not in WAYS:
        words.refuse()
    return WAYS[words.take()]


def _parts_read(words):
    """Read the parts of a book; their names and their steps."""
    names, steps = [], []
    another = True
    while another:
        place = words.place()
        name = words.name()
        if len(names) == MOST_PARTS:
            raise TooMany(place)
        if name in names:
            raise Twice(place)
        names.append(name)
        steps.append(words.number(1, MOST_STEPS))
        another = words.reads(",")
    return tuple(names), tuple(steps)


def _links_read(words, names):
    """Read the rows of links, if there are any; the links of each part."""
    rows = {}
    if words.reads(";"):
        words.due("links")
        another = True
        while another:
            part = _unlike_part_read(words, names, rows)
            words.due(":")
            rows[part] = _linked_read(words, names)
            another = words.reads(";")
    return tuple([tuple(sorted(set([part, *rows.get(part, [])]))) for part in range(len(names))])


def _linked_read(words, names):
    """Read the parts of a row of links."""
    linked = []
    another = True
    while another:
        linked.append(_unlike_part_read(words, names, linked))
        another = words.reads(",")
    return linked


def _unlike_part_read(words, names, parts):
    """Read the name of a part that is none of these parts."""
    place = words.place()
    part = words.part(names)
    if part in parts:
        raise Twice(place)
    return part


def _turn_read(words, names):
    """Read a turn; its moves."""
    part = words.part(names)
    way = way_read(words)
    many = words.number(1, MOST_MOVES) if words.figures() else 1
    return ((part, way),) * many
