"""What answers wait for: endings that take them back."""

from streamsure.changers import changing_events, outer_ids
from streamsure.events import TIME, key_fields, made_event, told_of
from streamsure.lonelystates import can_be_followed
from streamsure.meaning import lonely_events, meaning, rows_by_key
from streamsure.queries import Blocks, Each, Pairs, Sessions, Windows
from streamsure.reaching import key_of_first, second_names
from streamsure.windowstates import change_times, is_window_at
from streamsure.worths import states_of_all


def taken_back(query, events, mark, answer):
    """Return an ending behind which an answer stands as often as is certain, None if it does now."""
    return _ending(query, sorted(set(events)), mark, answer) or None


def waiting_for(query, events, mark):
    """Return the ascending tuple of the pairs of an answer that waits and such an ending."""
    rows = sorted(set(events))
    found = []
    for answer in sorted(set(meaning(query, rows))):
        ending = _ending(query, rows, mark, answer)
        if ending:
            found.append((answer, ending))
    return tuple(found)


def _ending(query, events, mark, answer):
    return tuple([("event", event) for event in _enders(query, events, mark, answer)])


def _enders(query, events, mark, answer):
    """Return the events that take an answer back, none if it is certain."""
    if isinstance(query, (Each, Pairs)):
        return ()
    if isinstance(query, Windows):
        return _window_enders(query, events, mark, answer)
    if isinstance(query, Blocks):
        return _block_enders(query, events, mark, answer)
    if isinstance(query, Sessions):
        return _session_enders(query, mark, answer)
    return _lonely_enders(query, events, mark, answer)


def _window_enders(query, events, mark, answer):
    key, begin = answer[0], answer[1]
    times = change_times(query, begin, mark)
    if not times:
        return ()
    row = [one for one in rows_by_key(query, events)[key] if is_window_at(query, begin, one[TIME])]
    states = states_of_all(query.side, query.worths, row)
    chosen = key_fields(query.by, key)
    for time in times:
        found = changing_events(query.side, chosen, query.worths, states, time, outer_ids(row))
        if found:
            return found
    return ()


def _block_enders(query, events, mark, answer):
    key, final = answer[0], answer[3]
    if final[TIME] < mark:
        return ()
    # one event more ahead of the last one moves it to another place in the blocks
    number = outer_ids(rows_by_key(query, events)[key])[0]
    return (made_event(query.side, key_fields(query.by, key), final[TIME], number),)


def _session_enders(query, mark, answer):
    key, last = answer[0], answer[2]
    if last + query.gap < mark:
        return ()
    return (made_event(query.side, key_fields(query.by, key), last + query.gap, 0),)


def _lonely_enders(query, events, mark, answer):
    found = {}
    for event in lonely_events(query, events):
        told = told_of(query.first, query.told, event)
        if told == answer and event[TIME] + query.reach >= mark and can_be_followed(query, event):
            chosen = key_fields(second_names(query), key_of_first(query, event))
            found[made_event(query.second, chosen, max(event[TIME] + 1, mark), 0)] = True
    return tuple(found)
