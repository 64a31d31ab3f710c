"""Feeds: histories that grow and are corrected in editions, and what a player shows of each."""

from byhalves.books import made_book, part_count
from byhalves.editions import Edition
from byhalves.errors import BadEdition, BadHistory, BadIndex, BadMany, BadPart, TooMany
from byhalves.forms import number_from
from byhalves.moves import made_history, way_formed

MOST_AT_ONCE = 1000
MOST_MOVES = 5000
MOST_EDITIONS = 50


class Feed:
    """Editions of a history, numbered from 1; moves are put behind the last one, elder ones stay."""

    def __init__(self, book, player):
        self._book = made_book(book)
        self._player = player.copy()
        self._editions = [Edition(book, self._player)]

    def move(self, part, way, many=1):
        """Put as many moves of a part behind the last edition."""
        if not number_from(part, 0, part_count(self._book) - 1):
            raise BadPart(part)
        if not way_formed(way):
            raise BadHistory(0)
        if not number_from(many, 1, MOST_AT_ONCE):
            raise BadMany(many)
        last = self._editions[-1]
        _check_moves(last.many() + many)
        last.take(((part, way),) * many)

    def correct(self, index, moves):
        """Make a new edition of the last one: moves stand in the place of the one at the index."""
        history = self._editions[-1].history()
        if not number_from(index, 0, len(history)):
            raise BadIndex(index)
        made_history(self._book, moves)
        if len(self._editions) == MOST_EDITIONS:
            raise TooMany(MOST_EDITIONS + 1)
        corrected = (*history[:index], *moves, *history[index + 1:])
        _check_moves(len(corrected))
        edition = Edition(self._book, self._player)
        edition.take(corrected)
        self._editions.append(edition)

    def editions(self):
        """How many editions there are."""
        return len(self._editions)

    def history(self, edition=None):
        """The history of an edition, of the last one for None."""
        return self._told_by(edition).history()

    def state(self, edition=None):
        """The state behind the history of an edition, of the last one for None."""
        return self._told_by(edition).state()

    def log(self, edition=None):
        """The log of an edition, of the last one for None."""
        return self._told_by(edition).log()

    def differences(self, one, other):
        """The parts whose shown numbers differ at the ends of two editions."""
        shown, beside = self._numbered(one).state()[1], self._numbered(other).state()[1]
        return tuple([part for part in range(part_count(self._book)) if shown[part] != beside[part]])

    def _told_by(self, edition):
        """The edition that is told by its number, or by None."""
        return self._editions[-1] if edition is None else self._numbered(edition)

    def _numbered(self, number):
        """The edition of a number."""
        if not number_from(number, 1, len(self._editions)):
            raise BadEdition(number)
        return self._editions[number - 1]


def _check_moves(many):
    """Refuse more moves than an edition may have."""
    if many > MOST_MOVES:
        raise TooMany(MOST_MOVES + 1)
