"""Values as texts, and back: integers, words, None and tuples, as deep as they may be."""

from streamsure.checks import LETTERS, is_integer
from streamsure.fallerrors import BadState
from streamsure.figures import integer_by, integer_word, is_integer_word, is_value_word

NONE_WORD = "-"


def value_text(value):
    """Return the one text of a value."""
    words = []
    # what is left to be written, the next one last: so tuples may be deeper than calls
    left = [(False, value)]
    while left:
        is_sign, part = left.pop()
        if is_sign or not isinstance(part, tuple):
            words.append(part if is_sign else _plain_word(part))
        else:
            words.append("(")
            left.append((True, ")"))
            left.extend([(False, inner) for inner in part[::-1]])
    return _joined(words)


def _plain_word(value):
    if value is None:
        return NONE_WORD
    return integer_word(value) if is_integer(value) else value


def _joined(words):
    """Return a text of words with one blank between, none on the inner side of a bracket."""
    parts = []
    for place, word in enumerate(words):
        if place > 0 and words[place - 1] != "(" and word != ")":
            parts.append(" ")
        parts.append(word)
    return "".join(parts)


def value_by(text):
    """Return the value of a text."""
    return _read(text, is_value_word)


def state_by(text):
    """Return what a text writes as value_by does, but with integers of any length.

    Numbers in states may outgrow those of values, and a machine that falls must still read its state.
    """
    return _read(text, is_integer_word)


def _read(text, is_number):
    """Return what a text writes; is_number tells which words are its integers."""
    if not isinstance(text, str):
        raise BadState(0)
    words = _words_of(text)
    _check_words(words, is_number)
    values = _values_of(words)
    if len(values) != 1 or _joined(words) != text:
        raise BadState(len(words))
    return values[0]


def _words_of(text):
    """Return the words of a text: brackets are words by themselves, blanks part the others."""
    spaced = text.replace("(", " ( ").replace(")", " ) ")
    return [word for word in spaced.split(" ") if word]


def _check_words(words, is_number):
    """Make sure that each word can stand in a value, and each closing bracket closes one."""
    depth = 0
    for place, word in enumerate(words):
        if word == ")":
            depth -= 1
        elif word == "(":
            depth += 1
        if depth < 0 or not _is_word(word, is_number):
            raise BadState(place)


def _is_word(word, is_number):
    if word in ("(", ")", NONE_WORD) or is_number(word):
        return True
    return all([sign in LETTERS for sign in word])


def _values_of(words):
    """Return the values that words write one after another, none if a bracket is left open."""
    open_ones = [[]]
    for word in words:
        if word == "(":
            open_ones.append([])
        elif word == ")":
            inner = tuple(open_ones.pop())
            open_ones[-1].append(inner)
        else:
            open_ones[-1].append(_plain_value(word))
    return open_ones[0] if len(open_ones) == 1 else []


def _plain_value(word):
    if word == NONE_WORD:
        return None
    return integer_by(word) if is_integer_word(word) else word
