"""Streams that tell queries apart: of one event, of two, or of so many alike ones."""

from streamsure.comparing import are_same
from streamsure.meaning import meaning
from streamsure.queries import Blocks, Lonely, Pairs, Sessions, Windows
from streamsure.samples import choices, chosen_event, groups_of_side, groups_of_two

TIMES_OF_TWO = ((0, 0), (0, 1), (1, 1), (1, 2))
IDS_OF_TWO = ((1, 2), (3, 2), (1, 3))


def told_from(one, other):
    """Return letters behind which two queries mean unlike answers, None if the queries are the same."""
    if are_same(one, other):
        return None
    events = _few_events(one, other) or _alike_events(one, other)
    return (*[("event", event) for event in events], ("end",))


def _is_unlike(one, other, events):
    return meaning(one, events) != meaning(other, events)


def _few_events(one, other):
    """Return one event or two that tell two queries apart, none if few enough do not."""
    rows = []
    for query, another in ((one, other), (other, one)):
        rows.extend(_moved_rows(query))
        rows.extend(_paired_rows(query, another))
    for events in rows:
        if _is_unlike(one, other, events):
            return events
    return []


def _own_side(query):
    """Return the side whose events are told of."""
    return query.first if isinstance(query, (Pairs, Lonely)) else query.side


def _moved_rows(query):
    """Return rows of events that are unlike in times and ids alone."""
    side = _own_side(query)
    if side.is_empty():
        return []
    base = choices(groups_of_side(side), [])[0]
    event = chosen_event(side, base, 0, 1)
    rows = [[event], [chosen_event(side, base, 0, 2)], [chosen_event(side, base, 1, 1)]]
    if isinstance(query, Sessions):
        rows.append([event, chosen_event(side, base, query.gap, 2)])
    return rows


def _paired_rows(query, another):
    """Return rows of two events that a query of two sides pairs."""
    groups = groups_of_two(query)
    if groups is None:
        return []
    reaches = [part.reach for part in (query, another) if isinstance(part, (Pairs, Lonely))]
    times = [*TIMES_OF_TWO, *[(0, reach) for reach in reaches]]
    rows = []
    for choice in choices(groups, groups_of_two(another) or []):
        for time, later in times:
            for number, more in IDS_OF_TWO:
                event = chosen_event(query.first, choice, time, number)
                rows.append([event, chosen_event(query.second, choice, later, more)])
    return rows


def _alike_events(one, other):
    """Return events of one time, all alike but their ids and one of them perhaps, that tell two queries apart."""
    for many in _counts(one, other):
        for query, another in ((one, other), (other, one)):
            side = _own_side(query)
            if not side.is_empty():
                found = choices(groups_of_side(side), groups_of_side(_own_side(another)))
                rows = [(choice, choice) for choice in found] + [(choice, found[0]) for choice in found]
                for choice, rest in rows:
                    events = _many_events(side, choice, rest, many)
                    if _is_unlike(one, other, events):
                        return events
    return []


def _many_events(side, choice, rest, many):
    """Return an event of a choice and so many less one of another choice."""
    return [chosen_event(side, rest if number > 0 else choice, 0, number) for number in range(many)]


def _counts(one, other):
    """Return the ascending numbers of events that two queries count up to."""
    counts = [1, 2]
    for query in (one, other):
        if isinstance(query, Blocks):
            counts.append(query.size)
        if isinstance(query, Windows):
            counts.extend([worth[1] for worth in query.worths if worth[0] == "atleast"])
    return sorted(set(counts))
