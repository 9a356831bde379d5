"""The errors of machines that fall and of many machines. Each keeps what it is made with."""

from streamsure.errors import StreamError


class BadPlace(StreamError):
    """There is no such place."""

    def __init__(self, place):
        self.place = place


class BadState(StreamError):
    """A text is the text of no state: the word of this number is wrong."""

    def __init__(self, word):
        self.word = word
