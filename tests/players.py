"""Players of other forms than the package's own, for the tests."""


class Scripted:
    """Tells one answer after another, whatever moved; silent behind the last one.

    All copies write their calls into one list.
    """

    def __init__(self, answers, at=0, calls=None, own=True):
        self.answers = answers
        self.at = at
        self.calls = [] if calls is None else calls
        self.own = own

    def copy(self):
        return Scripted(self.answers, self.at, self.calls, False)

    def moved(self, part, way):
        assert not self.own, "the player that was handed in is asked itself"
        self.calls.append((part, way))
        told = self.answers[self.at] if self.at < len(self.answers) else ()
        self.at += 1
        return told


class Follower:
    """Shows part 0 one higher or lower at each second move, of whatever part."""

    def __init__(self):
        self.odd = False

    def copy(self):
        other = Follower()
        other.odd = self.odd
        return other

    def moved(self, part, way):
        self.odd = not self.odd
        return () if self.odd else ((0, way),)


class Still:
    """Shows nothing but noughts."""

    def copy(self):
        return Still()

    def moved(self, part, way):
        return ()
