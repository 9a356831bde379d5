"""States of worths: they grow event by event, in any order."""

from streamsure.events import TIME, place_of
from streamsure.sets import greatest, how_many, least

ZERO_ALONE = ((0, 0),)


def states_of_one(side, worths, event):
    """Return the states of worths of a single event."""
    return tuple([_state_of_one(side, worth, event) for worth in worths])


def _state_of_one(side, worth, event):
    word = worth[0]
    if word in ("count", "atleast"):
        return 1
    if word in ("first", "last"):
        return event
    number = event[place_of(side, worth[1])]
    return (number,) if word == "unlike" else number


def states_of_all(side, worths, events):
    """Return the states of worths of a row of events that is not empty."""
    states = states_of_one(side, worths, events[0])
    for event in events[1:]:
        states = joined_states(worths, states, states_of_one(side, worths, event))
    return states


def joined_states(worths, ones, twos):
    """Return the states of worths of two rows of events together."""
    return tuple([_joined(worth, one, other) for worth, one, other in zip(worths, ones, twos)])


def _joined(worth, one, other):
    word = worth[0]
    if word in ("count", "sum"):
        return one + other
    if word == "atleast":
        return min(worth[1], one + other)
    if word == "unlike":
        return tuple(sorted(set([*one, *other])))
    if word in ("least", "first"):
        return min(one, other)
    return max(one, other)


def shown_worths(worths, states):
    """Return what an answer tells of worths in these states."""
    return tuple([_shown(worth, state) for worth, state in zip(worths, states)])


def _shown(worth, state):
    if worth[0] == "atleast":
        return 1 if state == worth[1] else 0
    return len(state) if worth[0] == "unlike" else state


def can_change(side, worths, states, time):
    """Tell whether an event of this time could change some of the worths."""
    return any([worth_can_change(side, worth, state, time) for worth, state in zip(worths, states)])


def worth_can_change(side, worth, state, time):
    """Tell whether an event of this time could change a worth, now or together with more."""
    word = worth[0]
    if word == "count":
        return True
    if word == "atleast":
        return state < worth[1]
    # ids have no least and no greatest: ahead of and behind each event of its time one can come
    if word == "first":
        return time <= state[TIME]
    if word == "last":
        return time >= state[TIME]
    numbers = side.set_of(worth[1])
    if word == "sum":
        return numbers != ZERO_ALONE
    if word == "least":
        return state != least(numbers)
    if word == "greatest":
        return state != greatest(numbers)
    return len(state) != how_many(numbers)
