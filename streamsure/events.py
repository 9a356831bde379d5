"""Events: what lets them through, what is told of them, and how new ones are made."""

from streamsure.queries import Lonely, Pairs
from streamsure.sets import has, how_many, member_but, some_member

TIME = 1
NUMBER = 2
FIRST_FIELD = 3


def sides_of(query):
    """Return the sides of a query, one or two."""
    if isinstance(query, (Pairs, Lonely)):
        return (query.first, query.second)
    return (query.side,)


def lets(side, event):
    """Tell whether a side lets an event through."""
    if event[0] != side.kind:
        return False
    return all([has(one, number) for one, number in zip(side.sets, event[FIRST_FIELD:])])


def place_of(side, name):
    """Return at which place of an event what is named stands."""
    if name == "time":
        return TIME
    if name == "id":
        return NUMBER
    return FIRST_FIELD + side.fields.index(name)


def told_of(side, names, event):
    """Return the tuple of what is named of an event."""
    return tuple([event[place_of(side, name)] for name in names])


def made_event(side, chosen, time, number):
    """Return an event that is let through, some of its fields chosen by a dict."""
    fields = [chosen[name] if name in chosen else some_member(side.set_of(name)) for name in side.fields]
    return (side.kind, time, number, *fields)


def key_fields(names, key):
    """Return the dict of the fields that a key chooses."""
    return {name: number for name, number in zip(names, key)}


def how_many_keys(side, names):
    """Return how many keys of these fields there can be, None for no end of them."""
    many = 1
    for name in names:
        here = how_many(side.set_of(name))
        if here is None:
            return None
        many = many * here
    return many


def free_key(side, names, seen):
    """Return a key that is none of those seen, None if there is none."""
    if not names:
        return None if seen else ()
    numbers = {key[0]: True for key in seen}
    number = member_but(side.set_of(names[0]), list(numbers))
    if number is not None:
        return (number, *[some_member(side.set_of(name)) for name in names[1:]])
    for known in numbers:
        rest = free_key(side, names[1:], [key[1:] for key in seen if key[0] == known])
        if rest is not None:
            return (known, *rest)
    return None
