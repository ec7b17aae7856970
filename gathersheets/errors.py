"""The errors by which the package refuses what it is given."""


class BinderError(ValueError):
    """The base of all errors of the package."""


class BadBook(BinderError):
    """What is no book."""

    def __init__(self, reason):
        self.reason = reason


class BadArgument(BinderError):
    """An argument that is refused."""

    def __init__(self, reason):
        self.reason = reason


class BadText(BinderError):
    """A text that is none of its kind."""

    def __init__(self, line, reason):
        self.line = line
        self.reason = reason


class BadDeed(BinderError):
    """A deed that a job does not do."""

    def __init__(self, reason):
        self.reason = reason


class BadJournal(BinderError):
    """A journal that no job has."""

    def __init__(self, place):
        self.place = place
