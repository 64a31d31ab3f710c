"""Standings: the truths and the shown numbers of a book, as moves go on."""

from byhalves.books import part_count


class Standing:
    """The truths and the shown numbers of the parts of a book."""

    def __init__(self, steps, truths, shown):
        self._steps = steps
        self._truths = list(truths)
        self._shown = list(shown)

    def copy(self):
        """A standing that goes on from here."""
        return Standing(self._steps, self._truths, self._shown)

    def move(self, part, way, changes):
        """Let the truth of a part go a step, and do these changes, whatever parts they are of."""
        self._truths[part] += way
        for changed, by in changes:
            self._shown[changed] += by

    def state(self):
        """The state now: truths and shown numbers."""
        return tuple(self._truths), tuple(self._shown)

    def strays(self):
        """The stray of each part now."""
        return part_strays(self._steps, self._truths, self._shown)


def first_standing(book):
    """The standing of a book at the beginning."""
    return Standing(book[0], [0] * part_count(book), [0] * part_count(book))


def part_strays(steps, truths, shown):
    """The stray of each part: its shown number in steps, less its truth."""
    return tuple([units * many - truth for many, truth, units in zip(steps, truths, shown)])


def line_stray(line, strays):
    """The stray of a line, from those of the parts."""
    return sum([weight * steps for weight, steps in zip(line, strays)])


def parts_beyond(strays, bound):
    """The parts that stray by more than a bound, up or down, rising."""
    return [part for part, steps in enumerate(strays) if abs(steps) > bound]
