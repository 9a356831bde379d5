"""When two queries are the same: each query has one form, whichever way it is written.

What a query tells is told here by terms: an integer for what is one number
always, else a name or a worth, one for all that are alike wherever it counts.
"""

from streamsure.checks import FIELD_WORTHS, NO_FIELDS
from streamsure.keysets import lonely_second, pair_sides, single_number
from streamsure.queries import Blocks, Each, Lonely, Pairs, Windows

COUNT = ("count",)
SINGLES = "each"


def are_same(one, other):
    """Tell whether two queries of the same kinds mean the same over all sets of events."""
    return form_of(one) == form_of(other)


def form_of(query):
    """Return a tuple that is equal just for queries that are the same."""
    if query.is_empty():
        return ("empty",)
    if isinstance(query, Each):
        return _singles_form(query.side, query.told)
    if isinstance(query, Pairs):
        return _pairs_form(query)
    if isinstance(query, Lonely):
        return _lonely_form(query)
    return _rows_form(query)


def _singles_form(side, told):
    return (SINGLES, side.form(), _terms(side, told))


def _terms(side, names):
    """Return the terms of what is named of a side's events."""
    numbers = [constant_of(side, name) for name in names]
    return tuple([name if number is None else number for name, number in zip(names, numbers)])


def constant_of(side, name):
    """Return the number that what is named of a side's events always is, None if it is not one."""
    return None if name in NO_FIELDS else single_number(side.set_of(name))


def _rows_form(query):
    """Return the form of windows, blocks or sessions."""
    key = _terms(query.side, query.by)
    if isinstance(query, Blocks):
        worths = tuple([_block_term(query, worth) for worth in query.worths])
        return ("blocks", query.side.form(), key, query.size, worths)
    worths = tuple([_worth_term(query.side, worth) for worth in query.worths])
    if isinstance(query, Windows):
        return ("windows", query.side.form(), key, query.length, query.step, worths)
    return ("sessions", query.side.form(), key, query.gap, worths)


def _worth_term(side, worth):
    """Return the term of a worth of any row of events."""
    if worth == ("atleast", 1):
        return 1
    number = constant_of(side, worth[1]) if worth[0] in FIELD_WORTHS else None
    if number is None:
        return worth
    if worth[0] == "unlike":
        return 1
    return _times_count(number) if worth[0] == "sum" else number


def _times_count(number):
    """Return the term of a number that is counted as often as there are events."""
    if number == 0:
        return 0
    return COUNT if number == 1 else ("times", number)


def _block_term(query, worth):
    """Return the term of a worth of rows that are all of one size."""
    if worth == COUNT:
        return query.size
    number = constant_of(query.side, worth[1])
    if number is not None:
        return number * query.size if worth[0] == "sum" else _worth_term(query.side, worth)
    if query.size > 1:
        return worth
    return 1 if worth[0] == "unlike" else ("least", worth[1])


def _pairs_form(query):
    """Return the form of pairs: their sides hold what can be paired alone."""
    first, second = pair_sides(query)
    told = [*[(first, name) for name in query.told[0]], *[(second, name) for name in query.told[1]]]
    by = query.by
    if query.mode == "near" and second.kind < first.kind:
        # near pairs can be told from either side
        first, second = second, first
        by = [(other, one) for one, other in by]
    joins = tuple(sorted([names for names in by if constant_of(first, names[0]) is None]))
    # what is one with something of the first side has its name
    names_of_second = {other: one for one, other in joins}
    if query.mode == "near" and query.reach == 0:
        names_of_second["time"] = "time"
    terms = tuple([_pair_term(first, names_of_second, side, name) for side, name in told])
    return ("pairs", first.form(), second.form(), joins, query.mode, query.reach, terms)


def _pair_term(first, names_of_second, side, name):
    number = constant_of(side, name)
    if number is not None:
        return number
    if side.kind != first.kind and name in names_of_second:
        return (first.kind, names_of_second[name])
    return (side.kind, name)


def _lonely_form(query):
    """Return the form of lonely events: their second side holds what can follow them alone."""
    second = lonely_second(query)
    if second.is_empty():
        return _singles_form(query.first, query.told)
    asked = []
    for one, other in query.by:
        # a number that is always there is asked for by the second side's sets
        if constant_of(query.first, one) is None:
            number = constant_of(second, other)
            asked.append((one, other if number is None else number))
    told = _terms(query.first, query.told)
    return ("lonely", query.first.form(), second.form(), tuple(sorted(asked)), query.reach, told)
