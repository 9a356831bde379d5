"""The words of books: names, integers, sets, pairs of names and worths, read and written."""

from streamsure.checks import BARE_WORTHS, FIELD_WORTHS, is_name
from streamsure.figures import integer_by, is_integer_word

LANGUAGE = (
    "kind", "query", "each", "windows", "blocks", "sessions", "pairs", "lonely", "where", "by", "length", "step",
    "worths", "size", "gap", "with", "without", "on", "near", "behind", "for", "tell",
)


def is_free_name(word):
    """Tell whether a word, None for one that lacks, is a name and no word of the language."""
    return is_name(word) and word not in LANGUAGE


def integer_of(word):
    """Return the integer that a word writes, None if it writes none."""
    return integer_by(word) if is_integer_word(word) else None


def intervals_of(word):
    """Return the intervals of a set that a word writes, None if it writes none."""
    if word == "-":
        return []
    found = [_interval_of(text) for text in word.split(",")]
    return None if None in found else found


def _interval_of(text):
    if ".." not in text:
        number = integer_of(text)
        return None if number is None else (number, number)
    low, _, high = text.partition("..")
    for end in (low, high):
        if end and integer_of(end) is None:
            return None
    return (integer_of(low), integer_of(high))


def set_word(one):
    """Return the word that writes a set."""
    return ",".join([_interval_word(low, high) for low, high in one]) if one else "-"


def _interval_word(low, high):
    if low is not None and low == high:
        return str(low)
    return f"{_end_word(low)}..{_end_word(high)}"


def _end_word(number):
    return "" if number is None else str(number)


def names_of_pair(word):
    """Return the two names that a word writes with a colon between, None if it writes none."""
    parts = tuple(word.split(":"))
    return parts if len(parts) == 2 and all([is_free_name(part) for part in parts]) else None


def worth_of(word):
    """Return the worth that a word writes, None if it writes none."""
    if word in BARE_WORTHS:
        return (word,)
    head, _, rest = word.partition(":")
    if head in FIELD_WORTHS and is_free_name(rest):
        return (head, rest)
    if head == "atleast" and integer_of(rest) is not None:
        return (head, integer_of(rest))
    return None


def worth_word(worth):
    """Return the word that writes a worth."""
    return ":".join([str(part) for part in worth])
