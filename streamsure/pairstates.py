"""States of pairs: the mark, what is behind it and can still be reached, the events from it on.

There are rows of each side: (key, time, what is told, how often).
"""

from streamsure.events import TIME, lets, told_of
from streamsure.reaching import fits_side, first_names, is_near, key_of_first, key_of_second
from streamsure.reaching import second_names


def pairs_at_event(query, state, event):
    """Return the state behind an event that is new, and the answers told then."""
    mark, ones, twos, kept = state
    is_first = lets(query.first, event)
    key = key_of_first(query, event) if is_first else key_of_second(query, event)
    if not _can_pair(query, is_first, key):
        return state, []
    if is_first:
        told = _partners_of_first(query, twos, kept, key, event)
    else:
        told = _partners_of_second(query, ones, kept, key, event)
    if not is_first and not told and not _is_in_reach(query, mark, event):
        return state, []
    return (mark, ones, twos, tuple(sorted([*kept, event]))), told


def pairs_at_mark(query, state, mark):
    """Return the state behind a mark that is above the last one, and the answers told then."""
    _, ones, twos, kept = state
    behind = [event for event in kept if event[TIME] < mark]
    added_ones = [_first_row(query, event) for event in behind if lets(query.first, event)]
    added_twos = [_second_row(query, event) for event in behind if lets(query.second, event)]
    ones = counted_rows([*ones, *added_ones], mark - query.reach)
    # no event that comes from the mark on is ahead of one below the mark
    twos = counted_rows([*twos, *added_twos], mark - query.reach) if query.mode == "near" else ()
    left = [event for event in kept if event[TIME] >= mark]
    left = [event for event in left if lets(query.first, event) or _is_wanted(query, ones, mark, event)]
    return (mark, ones, twos, tuple(left)), []


def counted_rows(rows, lowest):
    """Return the ascending rows whose time is not below the lowest one, alike ones counted together."""
    counts = {}
    for key, time, told, many in rows:
        if time >= lowest:
            counts[key, time, told] = counts.get((key, time, told), 0) + many
    return tuple([(*spot, counts[spot]) for spot in sorted(counts)])


def _can_pair(query, is_first, key):
    """Tell whether events of a key can be on both sides."""
    if is_first:
        return fits_side(query.second, second_names(query), key)
    return fits_side(query.first, first_names(query), key)


def _is_in_reach(query, mark, event):
    """Tell whether an event of the first side can still come that pairs with one of the second."""
    return query.mode == "near" or event[TIME] > mark


def _is_wanted(query, ones, mark, event):
    """Tell whether an event of the second side would tell or change something if it came again."""
    if _is_in_reach(query, mark, event):
        return True
    return len(_partners_of_second(query, ones, (), key_of_second(query, event), event)) > 0


def _first_row(query, event):
    told = told_of(query.first, query.told[0], event)
    return (key_of_first(query, event), event[TIME], told, 1)


def _second_row(query, event):
    told = told_of(query.second, query.told[1], event)
    return (key_of_second(query, event), event[TIME], told, 1)


def _partners_of_first(query, twos, kept, key, event):
    """Return the answers that an event of the first side has with all of the second one."""
    rows = [*twos, *[_second_row(query, other) for other in kept if lets(query.second, other)]]
    told = told_of(query.first, query.told[0], event)
    found = []
    for other_key, time, other, many in rows:
        if other_key == key and is_near(query, event[TIME], time):
            found.extend([told + other] * many)
    return found


def _partners_of_second(query, ones, kept, key, event):
    """Return the answers that an event of the second side has with all of the first one."""
    rows = [*ones, *[_first_row(query, one) for one in kept if lets(query.first, one)]]
    told = told_of(query.second, query.told[1], event)
    found = []
    for one_key, time, one, many in rows:
        if one_key == key and is_near(query, time, event[TIME]):
            found.extend([one + told] * many)
    return found
