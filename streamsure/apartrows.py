"""Rows of events that tell states of windows, blocks and sessions apart."""

from streamsure.changers import changing_events, many_events
from streamsure.checks import FIELD_WORTHS
from streamsure.events import TIME, free_key, key_fields, made_event, told_of
from streamsure.meaning import window_starts


def unlike_parts(one, other):
    """Return what is in one of two tuples only."""
    return [part for part in one if part not in other] + [part for part in other if part not in one]


def window_live_enders(query, state, ids):
    """Return rows of events of the live time, each with what it changes in some window."""
    time, rows, _ = state
    table = {(key, start): states for key, start, states in rows}
    found = []
    for key in _keys_and_one_more(query, [row[0] for row in rows]):
        chosen = key_fields(query.by, key)
        for start in window_starts(query, time):
            if (key, start) not in table:
                found.append((made_event(query.side, chosen, time, ids[1]),))
            elif table[key, start] is not None:
                states = table[key, start]
                found.append(changing_events(query.side, chosen, query.worths, states, time, ids))
    return found


def session_live_enders(query, state, ids):
    """Return rows of events of the live time, each with what it changes in some session."""
    time, rows, _ = state
    here = {row[0]: row[3] for row in rows if row[1] <= time <= row[2]}
    found = []
    for key in _keys_and_one_more(query, [row[0] for row in rows]):
        chosen = key_fields(query.by, key)
        if key in here:
            found.append(changing_events(query.side, chosen, query.worths, here[key], time, ids))
        else:
            found.append((made_event(query.side, chosen, time, ids[1]),))
    return found


def _keys_and_one_more(query, keys):
    """Return the unlike keys of a list, and one that is not in it, if there is one."""
    known = list({key: True for key in keys})
    more = free_key(query.side, query.by, known)
    return known if more is None else [*known, more]


def window_enders(query, one, other, ids):
    """Return rows of events that show unlike windows, and events that one state alone keeps."""
    ones = {(key, start): states for key, start, states in one[1]}
    twos = {(key, start): states for key, start, states in other[1]}
    found = []
    for key, start in [*ones, *[spot for spot in twos if spot not in ones]]:
        time = start + query.length - 1
        chosen = key_fields(query.by, key)
        found.append((made_event(query.side, chosen, time, ids[1]),))
        rows = (query.worths, ones.get((key, start)) or (), twos.get((key, start)) or ())
        for worth, state, another in zip(rows[0], rows[1], rows[2]):
            found.extend(_hidden_enders(query.side, chosen, worth, (state, another), time, ids[1]))
    for event in unlike_parts(one[2], other[2]):
        found.extend(_twice_enders(query, ones, event, ids[1]))
    return found


def _hidden_enders(side, chosen, worth, states, time, number):
    """Return rows of events that show two states of a worth that can be told as the same number."""
    if worth[0] == "atleast":
        return [many_events(side, chosen, worth[1] - max(states), time, number)]
    if worth[0] == "unlike":
        numbers = {seen: True for state in states for seen in state}
        return [(made_event(side, {**chosen, worth[1]: seen}, time, number),) for seen in numbers]
    return []


def _twice_enders(query, table, event, number):
    """Return rows of events, an event and so many that it is the last one to make a worth 1."""
    key = told_of(query.side, query.by, event)
    chosen = key_fields(query.by, key)
    found = []
    for start in window_starts(query, event[TIME]):
        for worth, state in zip(query.worths, table.get((key, start)) or ()):
            if worth[0] == "atleast":
                time = start + query.length - 1
                more = many_events(query.side, chosen, worth[1] - state - 1, time, number)
                found.append((event, *more))
    return found


def block_enders(query, one, other, ids):
    """Return rows of events that show unlike blocks: they fill one, from behind or from ahead.

    Those that fill it from ahead come at a live time, so they show unlike ones too.
    """
    found = []
    for key in _block_keys(query, one, other):
        chosen = key_fields(query.by, key)
        for state in (one, other):
            many = query.size - _how_many_events(query, state, key) % query.size
            found.append(many_events(query.side, chosen, many, ids[1], ids[1]))
            many = query.size - _how_many_behind(query, state, key) % query.size
            found.append(_many_ahead(query, chosen, many, state[0], ids[0]))
        found.extend(_order_enders(query, one, other, key, ids[0]))
        found.extend(_rest_enders(query, one, other, key, ids[0]))
    return found


def _order_enders(query, one, other, key, number):
    """Return a row of events that makes the first unlike kept event the last one of a block."""
    ones = _events_of_key(query, one, key)
    twos = _events_of_key(query, other, key)
    for place in range(min(len(ones), len(twos))):
        if ones[place] != twos[place]:
            many = -(_how_many_behind(query, one, key) + place + 1) % query.size
            return [_many_ahead(query, key_fields(query.by, key), many, one[0], number)]
    return []


def _rest_enders(query, one, other, key, number):
    """Return rows of events that fill the open block of a key with the numbers seen in it."""
    found = []
    ones, twos = _row_of_key(one, key), _row_of_key(other, key)
    many = query.size - ones[2]
    for worth, state, another in zip(query.worths, ones[4], twos[4]):
        if worth[0] in FIELD_WORTHS and worth[0] != "sum":
            seen = [*state, *another] if worth[0] == "unlike" else [state, another]
            for field in seen:
                chosen = {**key_fields(query.by, key), worth[1]: field}
                found.append(_many_ahead(query, chosen, many, one[0], number))
    return found


def _many_ahead(query, chosen, many, time, number):
    """Return so many events of a time whose ids ascend up to a number."""
    return many_events(query.side, chosen, many, time, number - many + 1)


def _block_keys(query, one, other):
    """Return the keys of two states, and one that can be."""
    some = made_event(query.side, {}, 0, 0)
    events = [*one[2], *other[2], some]
    keys = [row[0] for row in [*one[1], *other[1]]]
    keys.extend([told_of(query.side, query.by, event) for event in events])
    return list({key: True for key in keys})


def _row_of_key(state, key):
    for row in state[1]:
        if row[0] == key:
            return row
    return (key, 0, 0, None, ())


def _events_of_key(query, state, key):
    return [event for event in state[2] if told_of(query.side, query.by, event) == key]


def _how_many_behind(query, state, key):
    row = _row_of_key(state, key)
    return row[1] * query.size + row[2]


def _how_many_events(query, state, key):
    return _how_many_behind(query, state, key) + len(_events_of_key(query, state, key))
