"""The errors of the package."""


class NoRange(LookupError):
    """RANGES, or a RUN, do not have a name."""

    def __init__(self, name):
        self.name = name


class NoEvent(LookupError):
    """A WEB does not have an EVENT."""

    def __init__(self, event):
        self.event = event


class NoArc(LookupError):
    """A name is not that of an ARC, or of a CHANGE."""

    def __init__(self, name):
        self.name = name


class NoNumber(LookupError):
    """Nothing has a number."""

    def __init__(self, number):
        self.number = number


class NoShip(LookupError):
    """A name is not that of a ship."""

    def __init__(self, name):
        self.name = name


class NoWord(LookupError):
    """A word is not that of a PROMISE."""

    def __init__(self, word):
        self.word = word


class NothingDone(LookupError):
    """There is no deed to take back."""


class Twice(ValueError):
    """A name is there already."""

    def __init__(self, name):
        self.name = name


class Ring(ValueError):
    """ARCS, one behind another, would lead from an EVENT back to it."""


class NoPaper(ValueError):
    """There is no paper of this kind."""


class Unfit(ValueError):
    """What is handed in does not fit together."""


class BadText(ValueError):
    """A text is not that of such a thing."""


class BadLine(ValueError):
    """A line of a text is not written as it ought to be."""

    def __init__(self, number):
        self.number = number
