"""The errors of the package."""


class NoGroove(LookupError):
    """No GROOVE has this number."""

    def __init__(self, number):
        self.number = number


class NoTooth(LookupError):
    """No tooth has this number."""

    def __init__(self, number):
        self.number = number


class NoStart(LookupError):
    """No start has this number."""

    def __init__(self, number):
        self.number = number


class NoMark(LookupError):
    """No mark has this number."""

    def __init__(self, number):
        self.number = number


class NoWord(LookupError):
    """No CLAIM begins with this word."""

    def __init__(self, word):
        self.word = word


class NoClosing(LookupError):
    """The nut does not close there."""


class NothingDone(LookupError):
    """Nothing is there to take back or to put back."""


class Unfit(ValueError):
    """What is handed in does not fit together."""


class NoPaper(ValueError):
    """There is no such thing to show."""


class TooMany(ValueError):
    """There are more of them than are told."""


class BadLine(ValueError):
    """This line is not as told."""

    def __init__(self, number):
        self.number = number
