"""States of lonely events: the live time, those behind it that wait, covered times, and events.

A row of one that waits is (key, time, what is told, how often), a row of
covered times is (key, the set of the times at which an event would be followed
already). Kept are the events of the first side that nothing follows so far.
"""

from streamsure.events import TIME, how_many_keys, lets, told_of
from streamsure.pairstates import counted_rows
from streamsure.reaching import first_names, fits_side, key_of_first, key_of_second, second_names
from streamsure.sets import NOTHING, has, meet, union


def lonely_at_event(query, state, event):
    """Return the state behind an event that is new, and the answers told then."""
    if lets(query.first, event):
        return _at_first(query, state, event)
    key = key_of_second(query, event)
    if not fits_side(query.first, first_names(query), key):
        return state, []
    live, waiting, covers, kept = state
    begin, end = event[TIME] - query.reach, event[TIME] - 1
    waiting = [row for row in waiting if row[0] != key or row[1] < begin]
    kept = [one for one in kept if key_of_first(query, one) != key or not begin <= one[TIME] <= end]
    table = {known: times for known, times in covers}
    table[key] = union(table.get(key, NOTHING), ((begin, end),))
    return _settled(query, live, waiting, table, kept), []


def _at_first(query, state, event):
    live, waiting, covers, kept = state
    key = key_of_first(query, event)
    if any([known == key and has(times, event[TIME]) for known, times in covers]):
        return state, []
    told = [] if can_be_followed(query, event) else [told_of(query.first, query.told, event)]
    return (live, waiting, covers, tuple(sorted([*kept, event]))), told


def lonely_at_mark(query, state, mark):
    """Return the state behind a mark that is above the live time, and the answers told then."""
    _, waiting, covers, kept = state
    added = waiting_rows(query, [event for event in kept if event[TIME] < mark])
    rows = counted_rows([*waiting, *added], 0)
    told = [row for row in rows if row[1] + query.reach < mark]
    left = [row for row in rows if row[1] + query.reach >= mark]
    events = [event for event in kept if event[TIME] >= mark]
    table = {key: times for key, times in covers}
    return _settled(query, mark, left, table, events), _answers(told)


def lonely_settled(query, state):
    """Return a state whose live time is as late as its covered times allow."""
    live, waiting, covers, kept = state
    return _settled(query, live, waiting, {key: times for key, times in covers}, kept)


def lonely_at_end(query, state):
    """Return the answers that an end tells."""
    return _answers([*state[1], *waiting_rows(query, state[3])])


def can_be_followed(query, event):
    """Tell whether there can be an event of the second side with the key of one of the first."""
    return fits_side(query.second, second_names(query), key_of_first(query, event))


def waiting_rows(query, events):
    """Return the rows of those events that can be followed; the others are told already."""
    found = []
    for event in events:
        if can_be_followed(query, event):
            told = told_of(query.first, query.told, event)
            found.append((key_of_first(query, event), event[TIME], told, 1))
    return found


def _answers(rows):
    found = []
    for row in rows:
        found.extend([row[2]] * row[3])
    return found


def _settled(query, mark, waiting, table, kept):
    """Return the whole state: covered times count from the live time on alone."""
    live = _live_time(query, waiting, table, mark)
    covers = []
    for key in sorted(table):
        times = meet(table[key], ((live, None),))
        if times != NOTHING:
            covers.append((key, times))
    return (live, tuple(waiting), tuple(covers), tuple(kept))


def _live_time(query, waiting, table, mark):
    """Return the least time from the mark on at which some event can change something."""
    # what waits can be followed by an event at the mark itself; a key that no event
    # of the second side can have is never covered
    keys = how_many_keys(query.first, first_names(query))
    if waiting or keys is None or keys > len(table):
        return mark
    return min([_first_free(table[key], mark) for key in table])


def _first_free(times, mark):
    """Return the least time from the mark on that is not in a set."""
    for low, high in times:
        if low <= mark <= high:
            return high + 1
    return mark
