"""States of windows: the live time, what open windows have, the events that would count twice.

A row is (key, start, states of worths), None standing for the states of a
window that is told.
"""

from streamsure.events import TIME, how_many_keys, told_of
from streamsure.meaning import window_starts
from streamsure.worths import can_change, joined_states, shown_worths, states_of_one


def windows_at_event(query, state, event):
    """Return the state behind an event that is new, and the answers told then."""
    time, rows, kept = state
    table = _table_of(rows)
    key = told_of(query.side, query.by, event)
    added = states_of_one(query.side, query.worths, event)
    for start in window_starts(query, event[TIME]):
        if (key, start) not in table:
            table[key, start] = added
        elif table[key, start] is not None:
            table[key, start] = joined_states(query.worths, table[key, start], added)
    return _settled(query, time, table, [*kept, event])


def windows_at_mark(query, state, mark):
    """Return the state behind a mark that is above the live time, and the answers told then."""
    _, rows, kept = state
    return _settled(query, mark, _table_of(rows), kept)


def windows_settled(query, state):
    """Return a state whose live time is as late as its rows allow."""
    live, rows, kept = state
    return _settled(query, live, _table_of(rows), kept)[0]


def windows_at_end(query, state):
    """Return the answers that an end tells."""
    return [
        window_answer(query, key, start, states) for key, start, states in state[1] if states is not None
    ]


def window_answer(query, key, start, states):
    return (key, start, start + query.length, *shown_worths(query.worths, states))


def change_times(query, start, mark):
    """Return the first and the last time of a window from the mark on, none if it is closed.

    If an event at neither one can change a worth, none between them can: only
    first and last ask for a time, the first one's later than at no other and
    the last one's earlier than at no other.
    """
    first, last = max(start, mark), start + query.length - 1
    return (first, last) if first <= last else ()


def is_window_certain(query, start, states, mark):
    times = change_times(query, start, mark)
    return not any([can_change(query.side, query.worths, states, time) for time in times])


def is_window_at(query, start, time):
    return start <= time < start + query.length


def _table_of(rows):
    return {(key, start): states for key, start, states in rows}


def _settled(query, mark, table, kept):
    """Return the whole state behind a letter, and what is certain now for the first time."""
    told = []
    for key, start in list(table):
        states = table[key, start]
        if states is not None and is_window_certain(query, start, states, mark):
            told.append(window_answer(query, key, start, states))
            table[key, start] = None
    live = _live_time(query, table, mark)
    rows = [(key, start, table[key, start]) for key, start in sorted(table) if start + query.length > live]
    events = [event for event in kept if event[TIME] >= live and _counts_twice(query, table, event)]
    return (live, tuple(rows), tuple(sorted(events))), told


def _counts_twice(query, table, event):
    """Tell whether an event would change an open window if it came again."""
    key = told_of(query.side, query.by, event)
    added = states_of_one(query.side, query.worths, event)
    for start in window_starts(query, event[TIME]):
        states = table[key, start]
        if states is not None and joined_states(query.worths, states, added) != states:
            return True
    return False


def _live_time(query, table, mark):
    """Return the least time from the mark on at which some event can change something."""
    keys = how_many_keys(query.side, query.by)
    if keys is None:
        return mark
    windows = {}
    for key, start in table:
        windows.setdefault(start, []).append(table[key, start])
    time = mark
    while not _is_live(query, windows, keys, time):
        time = _next_border(query, windows, time)
    return time


def _is_live(query, windows, keys, time):
    for start in window_starts(query, time):
        row = windows.get(start, [])
        if len(row) < keys:
            return True
        open_ones = [states for states in row if states is not None]
        if any([can_change(query.side, query.worths, states, time) for states in open_ones]):
            return True
    return False


def _next_border(query, windows, time):
    """Return the next time at which events may begin to change something.

    Where a window begins, there may be none yet; where one ends, there is one
    less that an event could change.
    """
    borders = [(time // query.step + 1) * query.step]
    for start in window_starts(query, time):
        for states in windows[start]:
            for worth, state in zip(query.worths, states or ()):
                if worth[0] == "last":
                    borders.append(state[TIME])
    # no event of this time changes anything, so the last ones here are all later
    return min(borders)
