"""The errors of the program. Each keeps what it was given as attributes."""


class TellError(Exception):
    """The base class of all errors of the program."""


class InvalidMachine(TellError):
    """A number of a machine, or a factor, is wrong: part says which."""

    def __init__(self, part):
        self.part = part


class InvalidCount(TellError):
    """A number of hands, of letters or of names is wrong."""


class InvalidTime(TellError):
    """A time is not an integer in its range."""


class InvalidTurns(TellError):
    """The turns are neither None nor an integer in their range."""


class InvalidRoots(TellError):
    """The roots are wrong: at is the index of the first wrong one, or -1."""

    def __init__(self, at):
        self.at = at


class InvalidName(TellError):
    """A thing is not a name: at is the index of its first wrong item, or -1."""

    def __init__(self, at):
        self.at = at


class InvalidNames(TellError):
    """The names do not make a plan: at is the index of the first wrong one, or -1."""

    def __init__(self, at):
        self.at = at


class InvalidPlan(TellError):
    """A plan has a fault: why is its kind, at tells where it is."""

    def __init__(self, why, at):
        self.why = why
        self.at = at


class InvalidRows(TellError):
    """A list is wrong: at is the index of its first wrong item, or -1."""

    def __init__(self, at):
        self.at = at


class InvalidText(TellError):
    """A text is wrong: line is the number of its first wrong line, or 0."""

    def __init__(self, line):
        self.line = line


class LimitExceeded(TellError):
    """An answer lies behind the limit that is named."""

    def __init__(self, limit):
        self.limit = limit


class NothingLeft(TellError):
    """There is nothing left of what word names."""

    def __init__(self, word):
        self.word = word
