"""The errors that the program raises."""


class SomerowsError(ValueError):
    """The base of all errors of this package."""


class InvalidCommit(SomerowsError):
    """The changes are not a commit of the feed."""

    def __init__(self, changes):
        self.changes = changes


class LaneFull(SomerowsError):
    """The lane has no place for one more message."""

    def __init__(self, lane):
        self.lane = lane


class NothingThere(SomerowsError):
    """There is no such lane, or it is empty."""

    def __init__(self, lane):
        self.lane = lane


class NeverAnew(SomerowsError):
    """The plan never begins anew."""

    def __init__(self):
        pass


class InvalidText(SomerowsError):
    """The text is not that of a plan or a case."""

    def __init__(self, text):
        self.text = text
