"""Words of texts, each with its place, read from the left."""

from byhalves.errors import BadNumber, BadText, NoName
from byhalves.names import FIGURES, LETTERS, name_formed

MOST_SIGNS = 20000
LEAST_CODE = 32
MOST_CODE = 126
BARRED_CODE = 37
MOST_FIGURES = 7


class Words:
    """The words of a text, of which the first ones have been read."""

    def __init__(self, text):
        _check_text(text)
        self._words = _words_of(text)
        self._length = len(text)
        self._at = 0

    def word(self):
        """The next word; an empty text where the text ends."""
        return self._words[self._at][0] if self._at < len(self._words) else ""

    def place(self):
        """The place of the next word; the length of the text where it ends."""
        return self._words[self._at][1] if self._at < len(self._words) else self._length

    def take(self):
        """Read the next word, whatever it is."""
        word = self.word()
        self._at += 1
        return word

    def refuse(self):
        """Refuse the next word: such a one cannot stand here."""
        raise BadText(self.place())

    def reads(self, word):
        """Read the next word if it is this one; whether it was."""
        if self.word() != word:
            return False
        self._at += 1
        return True

    def due(self, word):
        """Read this word, which has to stand here."""
        if not self.reads(word):
            self.refuse()

    def names(self):
        """Whether the next word is a name."""
        return name_formed(self.word())

    def figures(self):
        """Whether the next word is a figure word."""
        return figures_formed(self.word())

    def name(self):
        """Read a name, whatever it names."""
        if not self.names():
            self.refuse()
        return self.take()

    def any_number(self):
        """Read a figure word, whatever its number."""
        if not self.figures():
            self.refuse()
        return int(self.take())

    def number(self, least, most):
        """Read a figure word, its number from least to most."""
        place = self.place()
        number = self.any_number()
        if not least <= number <= most:
            raise BadNumber(place)
        return number

    def signed(self, least, most):
        """Read a figure word with perhaps a "-" ahead of it, its size from least to most."""
        sign = -1 if self.reads("-") else 1
        return sign * self.number(least, most)

    def part(self, names):
        """Read the name of a part; the part."""
        place = self.place()
        name = self.name()
        if name not in names:
            raise NoName(place)
        return names.index(name)

    def end(self):
        """The text has to end here."""
        if self._at < len(self._words):
            self.refuse()


def figures_formed(word):
    """Whether a word is a figure word."""
    if not 1 <= len(word) <= MOST_FIGURES or word[0] == "0" and len(word) > 1:
        return False
    return all([sign in FIGURES for sign in word])


def _check_text(thing):
    """Refuse what is no text, or too long, or has a sign that no text has."""
    if not isinstance(thing, str):
        raise BadText(-1)
    for index, sign in enumerate(thing):
        code = ord(sign)
        if index == MOST_SIGNS or not LEAST_CODE <= code <= MOST_CODE or code == BARRED_CODE:
            raise BadText(index)


def _words_of(text):
    """The words of a text, each with its place."""
    words = []
    at = 0
    while at < len(text):
        end = _end_of_word(text, at)
        if text[at] != " ":
            words.append((text[at:end], at))
        at = end
    return words


def _end_of_word(text, at):
    """Where what begins at a sign ends."""
    if text[at:at + 2] == ":=":
        return at + 2
    end = at + 1
    if _side_by_side(text[at]):
        while end < len(text) and _side_by_side(text[end]):
            end += 1
    return end


def _side_by_side(sign):
    """Whether signs like this one make one word where they stand side by side."""
    return sign in LETTERS or sign in FIGURES
