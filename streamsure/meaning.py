"""What letters bring in, and what queries mean: plain functions of whole streams."""

from streamsure.events import TIME, lets, told_of
from streamsure.letters import plain_letters
from streamsure.queries import Blocks, Each, Pairs, Sessions, Windows
from streamsure.reaching import is_followed, is_near, key_of_first, key_of_second
from streamsure.worths import shown_worths, states_of_all


def stream_of(letters):
    """Return the stream as an ascending tuple, the mark, and whether there was an end."""
    taken = {}
    mark = 0
    is_over = False
    for letter in plain_letters(letters):
        if letter[0] == "end":
            is_over = True
        elif letter[0] == "mark":
            mark = max(mark, letter[1])
        elif not is_over and letter[1][TIME] >= mark:
            taken[letter[1]] = True
    return tuple(sorted(taken)), mark, is_over


def meaning(query, events):
    """Return the ascending list of all answers over a set of events."""
    rows = sorted(set(events))
    if isinstance(query, Each):
        return sorted([told_of(query.side, query.told, event) for event in seen_rows(query.side, rows)])
    if isinstance(query, Windows):
        return _window_answers(query, rows)
    if isinstance(query, Blocks):
        return _block_answers(query, rows)
    if isinstance(query, Sessions):
        return _session_answers(query, rows)
    if isinstance(query, Pairs):
        return _pair_answers(query, rows)
    return sorted([told_of(query.first, query.told, event) for event in lonely_events(query, rows)])


def seen_rows(side, events):
    """Return those events that a side lets through."""
    return [event for event in events if lets(side, event)]


def window_starts(query, time):
    """Return where the windows begin in which a time lies."""
    first = ((time - query.length) // query.step + 1) * query.step
    return list(range(first, time + 1, query.step))


def rows_by_key(query, events):
    """Return a dict from keys to their events, those let through alone."""
    found = {}
    for event in seen_rows(query.side, events):
        found.setdefault(told_of(query.side, query.by, event), []).append(event)
    return found


def _session_rows(query, events):
    """Return the sessions of one key's ascending events, each a list of events."""
    found = []
    for event in events:
        if found and event[TIME] - found[-1][-1][TIME] <= query.gap:
            found[-1].append(event)
        else:
            found.append([event])
    return found


def lonely_events(query, events):
    """Return the events of the first side that no event of the second one follows soon."""
    times = {}
    for event in seen_rows(query.second, events):
        times.setdefault(key_of_second(query, event), []).append(event[TIME])
    found = []
    for event in seen_rows(query.first, events):
        if not is_followed(query, event[TIME], times.get(key_of_first(query, event), [])):
            found.append(event)
    return found


def _worths_of(query, events):
    states = states_of_all(query.side, query.worths, events)
    return shown_worths(query.worths, states)


def _window_answers(query, events):
    windows = {}
    for key, row in rows_by_key(query, events).items():
        for event in row:
            for start in window_starts(query, event[TIME]):
                windows.setdefault((key, start), []).append(event)
    return sorted([
        (key, start, start + query.length, *_worths_of(query, row)) for (key, start), row in windows.items()
    ])


def _block_answers(query, events):
    found = []
    size = query.size
    for key, row in rows_by_key(query, events).items():
        for number in range(len(row) // size):
            block = row[number * size:(number + 1) * size]
            found.append((key, number, block[0], block[-1], *_worths_of(query, block)))
    return sorted(found)


def _session_answers(query, events):
    found = []
    for key, row in rows_by_key(query, events).items():
        for session in _session_rows(query, row):
            found.append((key, session[0][TIME], session[-1][TIME], *_worths_of(query, session)))
    return sorted(found)


def _pair_answers(query, events):
    twos = {}
    for event in seen_rows(query.second, events):
        twos.setdefault(key_of_second(query, event), []).append(event)
    found = []
    for one in seen_rows(query.first, events):
        told = told_of(query.first, query.told[0], one)
        for other in twos.get(key_of_first(query, one), []):
            if is_near(query, one[TIME], other[TIME]):
                found.append(told + told_of(query.second, query.told[1], other))
    return sorted(found)
