"""A desk that keeps publishers, lines and feeds by words."""

from byhalves.books import made_line
from byhalves.breaker import breaker
from byhalves.errors import BadName, NoWord, Refused, TooMany, Twice
from byhalves.feeds import Feed
from byhalves.logs import audit
from byhalves.names import name_formed
from byhalves.packings import off, reach
from byhalves.printer import print_paper
from byhalves.programs import program
from byhalves.publishers import made_names, made_publisher
from byhalves.readrows import read_row
from byhalves.reports import report

MOST_KEPT = 20
MOST_FEEDS = 10
# What a row of the desk can begin with, so that no feed is called so.
FIRST_WORDS = ("publisher", "open", "line", "break", "off", "spread")


class Desk:
    """Publishers, lines and feeds, each kept by a word, for the parts of a book and their names."""

    def __init__(self, names, book):
        self._names = made_names(book, names)
        self._book = book
        self._publishers = {}
        self._lines = {}
        self._feeds = {}

    def publisher(self, word, publisher):
        """Keep a publisher."""
        _check_name(word)
        made_publisher(self._book, self._names, publisher)
        _check_room(self._publishers, word)
        self._publishers[word] = publisher

    def line(self, word, line):
        """Keep a line."""
        _check_name(word)
        made_line(self._book, line)
        _check_room(self._lines, word)
        self._lines[word] = line

    def begin(self, feed, word):
        """Begin a feed with the publisher that the word has now."""
        _check_name(feed)
        if feed in FIRST_WORDS:
            raise BadName(feed)
        player = self._player(word)
        if feed in self._feeds:
            raise Twice(feed)
        if len(self._feeds) == MOST_FEEDS:
            raise TooMany(MOST_FEEDS + 1)
        self._feeds[feed] = Feed(self._book, player)

    def feed(self, word):
        """The feed of a word."""
        return _kept_by(self._feeds, word)

    def report(self, word):
        """The texts about the last state of a feed."""
        lines = tuple([self._lines[name] for name in sorted(self._lines)])
        return report(self._book, self._names, lines, self.feed(word).state())

    def wrongs(self, word, bound):
        """The wrongs in the last log of a feed."""
        return audit(self._book, (), bound, self.feed(word).log())[3]

    def paper(self, word, line, bound):
        """A paper about the publisher of a word, the line of a word and a bound."""
        player = self._player(word)
        return breaker(self._book, _kept_by(self._lines, line), player, bound)

    def off(self, line):
        """How far each player lets the line of a word be off, at least."""
        return off(self._book, _kept_by(self._lines, line))

    def spread(self, line):
        """How far apart each player lets the line of a word stray, at least."""
        return reach(self._book, _kept_by(self._lines, line))

    def row(self, text):
        """The answer to a row."""
        try:
            return self._answer(read_row(self._names, text))
        except Refused as error:
            return f"refused: {error.kind} {error.what}"

    def _answer(self, row):
        """Do or ask what a row tells."""
        word, rest = row[0], row[1:]
        if word == "report":
            return " / ".join(self.report(*rest))
        if word == "audit":
            return self._wrongs_text(self.wrongs(*rest))
        if word == "break":
            return print_paper(self._book, self._names, self.paper(*rest))
        if word == "off":
            return str(self.off(*rest))
        if word == "spread":
            return str(self.spread(*rest))
        self._do(word, rest)
        return "ok"

    def _do(self, word, rest):
        """Do what a row tells."""
        if word == "publisher":
            self.publisher(*rest)
        elif word == "line":
            self.line(*rest)
        elif word == "open":
            self.begin(*rest)
        elif word == "move":
            feed, part, way, many = rest
            self.feed(feed).move(part, way, many)
        else:
            feed, index, moves = rest
            self.feed(feed).correct(index, moves)

    def _wrongs_text(self, wrongs):
        """Wrongs as an answer tells them."""
        texts = [f"{index} {word} {self._names[part]}" for index, word, part in wrongs]
        return ", ".join(texts) if texts else "none"

    def _player(self, word):
        """A fresh player of the publisher of a word."""
        return program(self._book, self._names, _kept_by(self._publishers, word))


def _check_name(thing):
    """Refuse what is no name."""
    if not name_formed(thing):
        raise BadName(thing)


def _check_room(kept, word):
    """Refuse a new word where as many as can be kept are kept."""
    if word not in kept and len(kept) == MOST_KEPT:
        raise TooMany(MOST_KEPT + 1)


def _kept_by(kept, word):
    """What is kept by a word."""
    if not isinstance(word, str) or word not in kept:
        raise NoWord(word)
    return kept[word]
