"""The errors of the package: one class for each kind of failure."""


class TalkError(Exception):
    """The base class of all errors of this package."""


class BadValue(TalkError):
    """An argument of the call is wrong; at is its place, from 0 on."""

    def __init__(self, at):
        self.at = at


class BadField(TalkError):
    """What was handed in, kept as name, is no field of the form."""

    def __init__(self, name):
        self.name = name


class BadPaper(TalkError):
    """A plan or a witness is wrong at the line of this number."""

    def __init__(self, at):
        self.at = at


class BadLog(TalkError):
    """A log of a dialogue is wrong at the line of this number."""

    def __init__(self, at):
        self.at = at


class BadLine(TalkError):
    """The line of this number is none that the desk takes."""

    def __init__(self, at):
        self.at = at


class TooMany(TalkError):
    """There are more of what the word names than there may be."""

    def __init__(self, word):
        self.word = word


class NothingThere(TalkError):
    """There is none of what the word names."""

    def __init__(self, word):
        self.word = word
