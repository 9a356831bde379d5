"""States of blocks: the mark, what is behind it for each key, the events from it on.

A row is (key, number of the open block, how many events it has, the first of
them, states of worths); a block without events has None and no states.
"""

from streamsure.events import TIME, told_of
from streamsure.worths import joined_states, shown_worths, states_of_one


def blocks_at_event(query, state, event):
    """Return the state behind an event that is new, and the answers told then."""
    mark, rows, kept = state
    return (mark, rows, tuple(sorted([*kept, event]))), []


def blocks_at_mark(query, state, mark):
    """Return the state behind a mark that is above the last one, and the answers told then."""
    _, rows, kept = state
    rows, told = _fed(query, rows, [event for event in kept if event[TIME] < mark])
    return (mark, rows, tuple([event for event in kept if event[TIME] >= mark])), told


def blocks_at_end(query, state):
    """Return the answers that an end tells."""
    _, rows, kept = state
    return _fed(query, rows, kept)[1]


def _fed(query, rows, events):
    """Return the rows behind ascending events that no event can go ahead of, and the answers."""
    table = {row[0]: row for row in rows}
    told = []
    for event in events:
        key = told_of(query.side, query.by, event)
        row = _grown(query, table.get(key, (key, 0, 0, None, ())), event)
        if row[2] == query.size:
            told.append((key, row[1], row[3], event, *shown_worths(query.worths, row[4])))
            row = (key, row[1] + 1, 0, None, ())
        table[key] = row
    return tuple([table[key] for key in sorted(table)]), told


def _grown(query, row, event):
    """Return the row of a key behind its next event."""
    key, number, many, first, states = row
    added = states_of_one(query.side, query.worths, event)
    if many == 0:
        return (key, number, 1, event, added)
    return (key, number, many + 1, first, joined_states(query.worths, states, added))
