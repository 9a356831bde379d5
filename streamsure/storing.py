"""What is stored: texts that show whether they stand there wholly, at two places in turn."""

from streamsure.checks import is_integer
from streamsure.fallerrors import BadPlace
from streamsure.figures import integer_by, integer_word, is_value_word


def whole_text(number, body):
    """Return the text that stores a body: its number stands ahead of it and behind it."""
    figures = integer_word(number)
    return f"{figures}\n{body}\nend {figures}\n"


def whole_of(text):
    """Return the number and the body of a whole text, None for anything else."""
    if not isinstance(text, str):
        return None
    lines = text.split("\n")
    if len(lines) != 4 or lines[2] != f"end {lines[0]}" or lines[3] != "":
        return None
    if lines[0].startswith("-") or not is_value_word(lines[0]):
        return None
    return integer_by(lines[0]), lines[1]


def check_cut(text, cut):
    """Make sure that a text can be cut there."""
    if not is_integer(cut) or not 0 <= cut <= len(text):
        raise BadPlace(cut)


def torn(old, new, cut, is_over):
    """Return what stands at a place if a new text was cut behind so many signs."""
    check_cut(new, cut)
    if cut == len(new) or not is_over:
        return new[:cut]
    return new[:cut] + old[cut:]


def newest(places):
    """Return the number and the body of the whole text with the greatest number, None without any."""
    found = None
    for text in places:
        whole = whole_of(text)
        if whole is not None and (found is None or whole[0] > found[0]):
            found = whole
    return found


def place_for(number):
    """Return at which of the two places a text of this number is stored."""
    return number % 2


def with_text(places, number, text):
    """Return the texts of the two places when a text of this number is stored."""
    one, other = places
    return (text, other) if place_for(number) == 0 else (one, text)
