"""Publishers as players."""

from byhalves.books import part_count
from byhalves.doings import MOST_SIZE, behind
from byhalves.errors import BadHistory, BadState
from byhalves.forms import numbers_formed, tuple_of
from byhalves.moves import move_formed
from byhalves.publishers import made_publisher


def program(book, names, publisher):
    """The player that does what a publisher tells, from its first state on."""
    made_publisher(book, names, publisher)
    return ProgramPlayer(book, publisher, _first_state(book, publisher))


def program_at(book, names, publisher, state):
    """The player that does what a publisher tells, from a state on."""
    _check_state(book, names, publisher, state)
    return ProgramPlayer(book, publisher, state)


def told(book, names, publisher, state, move):
    """The state behind a move, and None; or the state ahead of it, and where the fault is."""
    _check_state(book, names, publisher, state)
    if not move_formed(part_count(book), move):
        raise BadHistory(0)
    after, place = behind(book, publisher, state, move[0], move[1])
    return after, None if place is None else ("fault", place)


class ProgramPlayer:
    """A player that keeps the state of a publisher, and nothing else."""

    def __init__(self, book, publisher, state):
        self._book = book
        self._publisher = publisher
        self._state = state

    def copy(self):
        """A player that goes on from the same state."""
        return ProgramPlayer(self._book, self._publisher, self._state)

    def moved(self, part, way):
        """The changes of all shown numbers; None at a fault, and the state stays."""
        after, place = behind(self._book, self._publisher, self._state, part, way)
        if place is not None:
            return None
        differences = [new - old for old, new in zip(self._state[1], after[1])]
        self._state = after
        return tuple([(changed, by) for changed, by in enumerate(differences) if by != 0])

    def state(self):
        """The state now: truths, shown numbers, cells and rows."""
        return self._state


def _first_state(book, publisher):
    """The state of a publisher ahead of all moves."""
    parts = part_count(book)
    cells = tuple([start for _, start in publisher[0]])
    rows = tuple([(start,) * parts for _, start in publisher[1]])
    return (0,) * parts, (0,) * parts, cells, rows


def _check_state(book, names, publisher, thing):
    """Refuse what is no state of this publisher."""
    made_publisher(book, names, publisher)
    if not _state_formed(part_count(book), publisher, thing):
        raise BadState(0)


def _state_formed(parts, publisher, thing):
    """Whether thing is a state of a publisher, for so many parts; truths may be of any size."""
    if not tuple_of(thing, 4):
        return False
    truths, shown, cells, rows = thing
    if not numbers_formed(truths, parts) or not tuple_of(rows, len(publisher[1])):
        return False
    if not _numbers_kept(shown, parts) or not _numbers_kept(cells, len(publisher[0])):
        return False
    return all([_numbers_kept(numbers, parts) for numbers in rows])


def _numbers_kept(thing, many):
    """Whether thing is a tuple of so many numbers that a publisher can keep."""
    return numbers_formed(thing, many) and all([abs(number) <= MOST_SIZE for number in thing])
