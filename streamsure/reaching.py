"""Keys of events, and which events of two sides reach each other."""

from streamsure.events import told_of
from streamsure.queries import Each, Lonely, Pairs
from streamsure.sets import has


def first_names(query):
    """Return the fields of the first side that its keys are made of."""
    return tuple([one for one, other in query.by])


def second_names(query):
    """Return the fields of the second side that its keys are made of."""
    return tuple([other for one, other in query.by])


def key_of_first(query, event):
    return told_of(query.first, first_names(query), event)


def key_of_second(query, event):
    return told_of(query.second, second_names(query), event)


def key_of_event(query, event):
    """Return the key of an event of a side's kind, of a single event the event itself."""
    if isinstance(query, Each):
        return event
    if not isinstance(query, (Pairs, Lonely)):
        return told_of(query.side, query.by, event)
    return key_of_first(query, event) if event[0] == query.first.kind else key_of_second(query, event)


def is_near(query, one, other):
    """Tell whether an event of the first side at time one pairs with one of the second."""
    if query.mode == "near":
        return abs(one - other) <= query.reach
    return one < other <= one + query.reach


def is_followed(query, time, times):
    """Tell whether one of the times follows a time soon."""
    return any([time < later <= time + query.reach for later in times])


def fits_side(side, names, key):
    """Tell whether a side lets events of this key through."""
    if side.is_empty():
        return False
    return all([has(side.set_of(name), number) for name, number in zip(names, key)])
