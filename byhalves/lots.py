"""Lots of strays, and how tuples are struck until a lot is closed."""

from byhalves.books import part_count


class Lot:
    """A lot of tuples of strays: what is struck takes all with it that has no way back any more.

    For each part, tuples are in one class if changes at its moves lead from the one to the other.
    """

    def __init__(self, book, tuples):
        self._steps = book[0]
        self._links = book[1]
        self._kept = {strays: True for strays in tuples}
        self._classes = [self._classed(part, tuples) for part in range(part_count(book))]
        self._left = [_sizes(classes) for classes in self._classes]
        self.strike(self._leading_out())

    def has(self, strays):
        """Whether a tuple is in the lot."""
        return strays in self._kept

    def rising(self):
        """The tuples of the lot, rising."""
        return tuple(sorted(self._kept))

    def strike(self, tuples):
        """Strike these tuples, and each from which some move does not lead into the lot then."""
        waiting = list(tuples)
        while waiting:
            strays = waiting.pop()
            if strays in self._kept:
                del self._kept[strays]
                for part in range(len(self._steps)):
                    waiting.extend(self._lost(part, strays))

    def _lost(self, part, strays):
        """The tuples for which a move of the part leads nowhere, now that this one is struck."""
        key = self._class_of(part, strays)
        self._left[part][key] -= 1
        return self._leading_to(part, key) if self._left[part][key] == 0 else []

    def _leading_out(self):
        """The tuples from which some move leads into a class that has no tuple at all."""
        found = []
        for part, classes in enumerate(self._classes):
            for key in classes:
                if not all([beside in classes for beside in self._beside(part, key)]):
                    found.extend(classes[key])
        return found

    def _leading_to(self, part, key):
        """The tuples from which a move of the part leads into a class."""
        classes = self._classes[part]
        return [strays for beside in self._beside(part, key) for strays in classes.get(beside, [])]

    def _beside(self, part, key):
        """The two classes into which the moves of the part lead from a class; they lead back, too."""
        steps = self._steps[part]
        ahead, at, behind = key[:part], key[part], key[part + 1:]
        return [(*ahead, (at + way) % steps, *behind) for way in (1, -1)]

    def _classed(self, part, tuples):
        """The tuples by their classes at moves of the part."""
        classes = {}
        for strays in tuples:
            classes.setdefault(self._class_of(part, strays), []).append(strays)
        return classes

    def _class_of(self, part, strays):
        """What no changes at a move of the part can alter: strays, of linked parts what is left by the steps."""
        linked = self._links[part]
        return tuple([
            stray % steps if i in linked else stray for i, (stray, steps) in enumerate(zip(strays, self._steps))
        ])


def _sizes(classes):
    """How many tuples are in each class."""
    return {key: len(classes[key]) for key in classes}
