"""Integers as figures, there and back, of any length: Python's own ways end at some thousands."""

FIGURES = "0123456789"
CHUNK = 60
# of integers that are values, and of the numbers of whole texts
MOST_FIGURES = 4000


def _figures_of(word):
    return word[1:] if word.startswith("-") else word


def is_integer_word(word):
    """Tell whether a word writes an integer without needless signs and figures."""
    figures = _figures_of(word)
    if not figures or not all([sign in FIGURES for sign in figures]):
        return False
    return word == "0" or not figures.startswith("0")


def is_value_word(word):
    """Tell whether a word writes, plainly, an integer that has no more figures than a value may have."""
    return len(_figures_of(word)) <= MOST_FIGURES and is_integer_word(word)


def integer_by(word):
    """Return the integer that a word writes plainly."""
    figures = _figures_of(word)
    first = len(figures) % CHUNK
    number = int(figures[:first] or "0")
    for begin in range(first, len(figures), CHUNK):
        number = number * 10 ** 60 + int(figures[begin:begin + CHUNK])
    return -number if word.startswith("-") else number


def integer_word(number):
    """Return the word that writes an integer."""
    left = abs(number)
    chunks = []
    while left >= 10 ** 60:
        left, rest = divmod(left, 10 ** 60)
        chunks.append(str(rest).zfill(CHUNK))
    figures = "".join([str(left), *chunks[::-1]])
    return f"-{figures}" if number < 0 else figures
