"""Letters: what may come in, checked before it is read."""

from streamsure.checks import is_integer, is_name
from streamsure.errors import BadLetter
from streamsure.events import FIRST_FIELD, TIME, sides_of


def plain_letters(letters):
    """Return letters as a tuple, each one a letter of some kinds."""
    rows = tuple(letters)
    for number, thing in enumerate(rows):
        if not is_plain_letter(thing):
            raise BadLetter(number)
    return rows


def letters_for(query, letters):
    """Return letters as a tuple, each one a letter of the query's kinds."""
    rows = tuple(letters)
    for number, thing in enumerate(rows):
        if not is_letter_for(query, thing):
            raise BadLetter(number)
    return rows


def is_letter_for(query, thing):
    """Tell whether a thing, whatever it is, is a letter of the query's kinds."""
    if not is_plain_letter(thing):
        return False
    return thing[0] != "event" or any([side.kinds.is_event(thing[1]) for side in sides_of(query)])


def is_plain_letter(thing):
    """Tell whether a thing, whatever it is, is a letter of some kinds."""
    if not isinstance(thing, tuple) or not thing or not isinstance(thing[0], str):
        return False
    if thing[0] == "end":
        return len(thing) == 1
    if len(thing) != 2:
        return False
    if thing[0] == "mark":
        return is_integer(thing[1]) and thing[1] >= 0
    return thing[0] == "event" and _may_be_event(thing[1])


def _may_be_event(thing):
    """Tell whether there are kinds of which a thing, whatever it is, is an event."""
    if not isinstance(thing, tuple) or len(thing) < FIRST_FIELD or not is_name(thing[0]):
        return False
    return all([is_integer(number) for number in thing[1:]]) and thing[TIME] >= 0
