"""States of sessions: the live time, what open sessions have, the events that would count twice.

A row is (key, first time, last time, states of worths).
"""

from streamsure.events import TIME, how_many_keys, told_of
from streamsure.worths import can_change, joined_states, shown_worths, states_of_one


def sessions_at_event(query, state, event):
    """Return the state behind an event that is new, and the answers told then."""
    time, rows, kept = state
    key = told_of(query.side, query.by, event)
    first = last = event[TIME]
    states = states_of_one(query.side, query.worths, event)
    apart = []
    for row in rows:
        if row[0] == key and row[1] - query.gap <= event[TIME] <= row[2] + query.gap:
            first, last = min(first, row[1]), max(last, row[2])
            states = joined_states(query.worths, states, row[3])
        else:
            apart.append(row)
    return _settled(query, time, [*apart, (key, first, last, states)], [*kept, event])


def sessions_at_mark(query, state, mark):
    """Return the state behind a mark that is above the live time, and the answers told then."""
    _, rows, kept = state
    return _settled(query, mark, rows, kept)


def sessions_settled(query, state):
    """Return a state whose live time is as late as its rows allow."""
    live, rows, kept = state
    return _settled(query, live, rows, kept)[0]


def sessions_at_end(query, state):
    """Return the answers that an end tells."""
    return [session_answer(query, row) for row in state[1]]


def session_answer(query, row):
    key, first, last, states = row
    return (key, first, last, *shown_worths(query.worths, states))


def _settled(query, mark, rows, kept):
    """Return the whole state behind a letter, and what is certain now for the first time."""
    told = [session_answer(query, row) for row in rows if row[2] + query.gap < mark]
    left = sorted([row for row in rows if row[2] + query.gap >= mark])
    live = _live_time(query, left, mark)
    events = [event for event in kept if event[TIME] >= live and _counts_twice(query, left, event)]
    return (live, tuple(left), tuple(sorted(events))), told


def _counts_twice(query, rows, event):
    """Tell whether an event would change its session if it came again."""
    key = told_of(query.side, query.by, event)
    added = states_of_one(query.side, query.worths, event)
    for row in rows:
        if row[0] == key and row[1] <= event[TIME] <= row[2]:
            return joined_states(query.worths, row[3], added) != row[3]
    return False


def _live_time(query, rows, mark):
    """Return the least time from the mark on at which some event can change something."""
    keys = how_many_keys(query.side, query.by)
    if keys is None:
        return mark
    time = mark
    while not _is_live(query, rows, keys, time):
        # each key has a session here, and behind its end there is none at once
        time = min([border for row in rows for border in (row[2], row[2] + 1) if border > time])
    return time


def _is_live(query, rows, keys, time):
    here = [row[3] for row in rows if row[1] <= time <= row[2]]
    if len(here) < keys:
        return True
    return any([can_change(query.side, query.worths, states, time) for states in here])
