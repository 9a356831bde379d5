"""The errors of the program. Each one keeps what it is made with as attributes."""


class StreamError(Exception):
    """What all errors of the program are."""


class BadQuery(StreamError):
    """What was handed in is no kinds, no side or no query; the word tells why."""

    def __init__(self, word):
        self.word = word


class BadLetter(StreamError):
    """The letter of this number cannot be read."""

    def __init__(self, number):
        self.number = number


class TooMany(StreamError):
    """There are more than so many."""

    def __init__(self, most):
        self.most = most


class NotFinite(StreamError):
    """The query has no finite table."""

    def __init__(self):
        pass


class BadText(StreamError):
    """A text cannot be read: the first wrong word stands in this line."""

    def __init__(self, line, word):
        self.line = line
        self.word = word
