"""Rows of events that tell states of pairs and of lonely events apart."""

from streamsure.events import TIME, free_key, key_fields, lets, made_event
from streamsure.reaching import first_names, fits_side, key_of_first, key_of_second, second_names
from streamsure.sets import meet, others, some_member, union


def pair_live_enders(query, state, ids):
    """Return rows of events: one of the live time and one that pairs with it."""
    time = state[0]
    key = tuple([
        some_member(meet(query.first.set_of(one), query.second.set_of(other))) for one, other in query.by
    ])
    one = _first_with(query, key, time, ids[1])
    other = _second_with(query, key, time if query.mode == "near" else time + 1, ids[1])
    return [(other,), (one, other)]


def pair_enders(query, one, other, ids):
    """Return rows of events that show unlike rows of either side, and kept events with a partner."""
    found = []
    kept = [*one[3], *other[3]]
    for key, time in _spots(query, [*one[1], *other[1]], kept):
        found.append((_second_with(query, key, time + query.reach, ids[1]),))
    for key, time in _second_spots(query, [*one[2], *other[2]], kept):
        found.append((_first_with(query, key, _first_time(query, time, query.reach), ids[1]),))
    for event in kept:
        if lets(query.first, event):
            time = event[TIME] if query.mode == "near" else event[TIME] + 1
            found.append((event, _second_with(query, key_of_first(query, event), time, ids[1])))
        else:
            time = _first_time(query, event[TIME], 0)
            found.append((event, _first_with(query, key_of_second(query, event), time, ids[1])))
    return found


def _first_time(query, time, later):
    """Return a time of an event of the first side that pairs with one of the second."""
    return time + later if query.mode == "near" else max(time - 1, 0)


def lonely_live_enders(query, state, ids):
    """Return rows of events of the live time that nothing follows, or that follow what waits."""
    time, waiting, covers, _ = state
    found = [(_second_with(query, row[0], time, ids[1]),) for row in waiting]
    keys = [key for key, times in covers]
    more = free_key(query.first, first_names(query), keys)
    for key in keys if more is None else [*keys, more]:
        found.append((_first_with(query, key, time, ids[1]),))
    return found


def lonely_enders(query, one, other, ids):
    """Return rows of events that show unlike rows of what waits, and unlike covered times."""
    found = []
    for key, time in _spots(query, [*one[1], *other[1]], [*one[3], *other[3]]):
        # some kept events are told at once, since nothing can follow them
        if fits_side(query.second, second_names(query), key):
            found.append((_second_with(query, key, time + query.reach, ids[1]),))
    ones = {key: times for key, times in one[2]}
    twos = {key: times for key, times in other[2]}
    for key in [*ones, *twos]:
        times = _unlike_times(ones.get(key, ()), twos.get(key, ()))
        if times:
            found.append((_first_with(query, key, some_member(times), ids[1]),))
    return found


def _unlike_times(one, other):
    return union(meet(one, others(other)), meet(other, others(one)))


def _spots(query, rows, kept):
    """Return the unlike keys and times of rows and of kept events of the first side."""
    found = {(row[0], row[1]): True for row in rows}
    for event in kept:
        if lets(query.first, event):
            found[key_of_first(query, event), event[TIME]] = True
    return list(found)


def _second_spots(query, rows, kept):
    found = {(row[0], row[1]): True for row in rows}
    for event in kept:
        if lets(query.second, event):
            found[key_of_second(query, event), event[TIME]] = True
    return list(found)


def _first_with(query, key, time, number):
    return made_event(query.first, key_fields(first_names(query), key), time, number)


def _second_with(query, key, time, number):
    return made_event(query.second, key_fields(second_names(query), key), time, number)
