"""The errors of the package: what was refused, and where."""


class Refused(ValueError):
    """Something was refused; what tells which."""

    def __init__(self, what):
        self.what = what
        self.kind = self.__class__.__name__


class BadBook(Refused):
    """What was handed in is no book."""


class BadLine(Refused):
    """What was handed in is no line of the book."""


class BadHistory(Refused):
    """What was handed in is no history of the book."""


class BadHistories(Refused):
    """What was handed in is no tuple of histories."""


class BadBound(Refused):
    """A bound is no number within its limits."""


class BadTies(Refused):
    """What was handed in are no ties of the book."""


class BadPart(Refused):
    """What was handed in is no part of the book."""


class BadLeads(Refused):
    """What was handed in are no leads of the book."""


class BadState(Refused):
    """What was handed in is no state."""


class Broken(Refused):
    """A player's answer to a move is no changes, or breaks the links."""


class TooLarge(Refused):
    """A task is larger than what is taken on."""


class NotAlike(Refused):
    """The steps of the parts are not all alike."""


class NotPlain(Refused):
    """The book is not plain."""


class NoKeeper(Refused):
    """No player keeps these bounds."""


class BadNames(Refused):
    """What was handed in are no names for the parts."""


class BadPublisher(Refused):
    """What was handed in is no publisher."""


class TooMany(Refused):
    """There would be more of something than are taken."""


class BadLog(Refused):
    """What was handed in is no log."""


class BadMany(Refused):
    """How often a move is made is no number within its limits."""


class BadIndex(Refused):
    """What was handed in is no index of the history."""


class BadEdition(Refused):
    """What was handed in is no number of an edition."""


class BadName(Refused):
    """What was handed in is no name that may be taken."""


class NoWord(Refused):
    """Nothing is kept by this word."""


class Twice(Refused):
    """Something has this name already."""


class BadText(Refused):
    """Such a word cannot stand at this place of a text."""


class NoName(Refused):
    """Nothing has the name that stands at this place."""


class BadNumber(Refused):
    """The number at this place is beyond its limits."""


class TooDeep(Refused):
    """Something at this place lies too deep."""


class BadPaper(Refused):
    """What was handed in is no paper."""


class BadTable(Refused):
    """What was handed in is no table for the book."""
