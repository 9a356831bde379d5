"""What may be handed in where kinds, sides and queries are made."""

from streamsure.errors import BadQuery

LETTERS = "abcdefghijklmnopqrstuvwxyz"
LONGEST_NAME = 12
NO_FIELDS = ("time", "id")
BARE_WORTHS = ("count", "first", "last")
FIELD_WORTHS = ("sum", "least", "greatest", "unlike")


def is_integer(thing):
    """Tell whether a thing is an integer: True and False are none."""
    return isinstance(thing, int) and not isinstance(thing, bool)


def is_row(thing):
    """Tell whether a thing is a row: a text is none."""
    return isinstance(thing, (list, tuple))


def is_pair(thing):
    return is_row(thing) and len(thing) == 2


def is_row_of_pairs(thing):
    return is_row(thing) and all([is_pair(part) for part in thing])


def is_row_of_intervals(thing):
    return is_row_of_pairs(thing) and all([_is_end(low) and _is_end(high) for low, high in thing])


def _is_end(thing):
    return thing is None or is_integer(thing)


def is_name(thing):
    if not isinstance(thing, str) or not 1 <= len(thing) <= LONGEST_NAME:
        return False
    return all([sign in LETTERS for sign in thing])


def kind_row(kind, names):
    """Return the names of a kind's fields as a tuple."""
    if not is_name(kind) or not is_row(names):
        raise BadQuery("name")
    for name in names:
        if not is_name(name) or name in NO_FIELDS:
            raise BadQuery("name")
    named_once(names)
    return tuple(names)


def named_once(names):
    if len(set(names)) < len(names):
        raise BadQuery("twice")


def known_names(names, known):
    """Return a row of names, each one of the known ones, as a tuple."""
    if not is_row(names):
        raise BadQuery("field")
    for name in names:
        if name not in known:
            raise BadQuery("field")
    return tuple(names)


def key_names(by, side):
    """Return the fields of a side that a key is made of as a tuple."""
    names = known_names(by, side.fields)
    named_once(names)
    return names


def key_pairs(first, second, by):
    """Return the pairs of fields in which the keys of two sides are alike."""
    if first.kind == second.kind:
        raise BadQuery("kind")
    if not is_row_of_pairs(by):
        raise BadQuery("key")
    ones = known_names([one for one, other in by], first.fields)
    twos = known_names([other for one, other in by], second.fields)
    named_once(ones)
    named_once(twos)
    return tuple(zip(ones, twos))


def told_names(told, side):
    """Return the names of what is told of a side's events as a tuple."""
    return known_names(told, side.fields + NO_FIELDS)


def number_from(lowest, number, word):
    """Return an integer that is not below the lowest one."""
    if not is_integer(number) or number < lowest:
        raise BadQuery(word)
    return number


def worth_row(worths, barred, side, by):
    """Return worths of a side's events, none of them barred, as a tuple."""
    if not is_row(worths):
        raise BadQuery("worth")
    return tuple([_worth(worth, barred, side.fields, by) for worth in worths])


def _worth(worth, barred, fields, by):
    if not _is_worth(worth) or worth[0] in barred:
        raise BadQuery("worth")
    if worth[0] in FIELD_WORTHS:
        if worth[1] not in fields:
            raise BadQuery("field")
        if worth[1] in by:
            raise BadQuery("key")
    return tuple(worth)


def _is_worth(thing):
    """Tell whether a thing is a worth, whatever the field that it names."""
    if not is_row(thing) or not thing:
        return False
    if thing[0] in BARE_WORTHS:
        return len(thing) == 1
    if thing[0] in FIELD_WORTHS:
        return len(thing) == 2
    return thing[0] == "atleast" and len(thing) == 2 and is_integer(thing[1]) and thing[1] >= 1
