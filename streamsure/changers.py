"""Events that change worths, for endings that show what can still change."""

from streamsure.checks import FIELD_WORTHS
from streamsure.events import NUMBER, made_event
from streamsure.sets import meet, member_but, some_member
from streamsure.worths import worth_can_change


def outer_ids(events):
    """Return an id below those of some events and one above them."""
    numbers = [event[NUMBER] for event in events] or [0]
    return min(numbers) - 1, max(numbers) + 1


def changing_events(side, chosen, worths, states, time, ids):
    """Return events of a time that change some worth, none if no event of it could.

    The first one of two ids is ahead of the ids of all events there are, from
    the second one on all are free.
    """
    found = []
    for worth, state in zip(worths, states):
        if worth_can_change(side, worth, state, time):
            found.append(_changing_one(side, chosen, worth, state, time, ids))
    return min(found, key=len, default=())


def many_events(side, chosen, many, time, number):
    """Return so many events that are alike but for their ids, which ascend from a number on."""
    return tuple([made_event(side, chosen, time, number + more) for more in range(many)])


def _changing_one(side, chosen, worth, state, time, ids):
    ahead, behind = ids
    word = worth[0]
    if word == "first":
        return many_events(side, chosen, 1, time, ahead)
    if word == "atleast":
        return many_events(side, chosen, worth[1] - state, time, behind)
    if word in FIELD_WORTHS:
        numbers = side.set_of(worth[1])
        return many_events(side, {**chosen, worth[1]: _new_number(numbers, word, state)}, 1, time, behind)
    return many_events(side, chosen, 1, time, behind)


def _new_number(numbers, word, state):
    """Return a number of a field that changes a worth of it."""
    if word == "sum":
        return member_but(numbers, (0,))
    if word == "least":
        return some_member(meet(numbers, ((None, state - 1),)))
    if word == "greatest":
        return some_member(meet(numbers, ((state + 1, None),)))
    return member_but(numbers, state)
