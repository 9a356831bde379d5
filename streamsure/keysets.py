"""Sides as far as keys can be on both sides of a query."""

from streamsure.queries import Side
from streamsure.reaching import first_names, second_names
from streamsure.sets import how_many, least, meet


def single_number(one):
    """Return the member of a set that has just one, None for others."""
    return least(one) if how_many(one) == 1 else None


def pair_sides(query):
    """Return both sides of a query, as far as their keys can be on the other one."""
    return _narrowed(query, query.first, first_names(query)), _narrowed(query, query.second, second_names(query))


def lonely_second(query):
    """Return the second side of a query, as far as its keys can be on the first one."""
    return _narrowed(query, query.second, second_names(query))


def _narrowed(query, side, names):
    """Return a side of a query whose fields of the key hold what can be on both sides."""
    where = {field: one for field, one in zip(side.fields, side.sets)}
    for name, (one, other) in zip(names, query.by):
        where[name] = meet(query.first.set_of(one), query.second.set_of(other))
    return Side(side.kinds, side.kind, where)
