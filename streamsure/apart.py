"""Endings that tell two states apart."""

from streamsure.apartpairs import lonely_enders, lonely_live_enders, pair_enders, pair_live_enders
from streamsure.apartrows import block_enders, session_live_enders, unlike_parts, window_enders
from streamsure.apartrows import window_live_enders
from streamsure.events import made_event
from streamsure.machines import step
from streamsure.queries import Blocks, Each, Lonely, Pairs, Sessions, Windows


def told_apart(query, one, other):
    """Return an ending at which unlike answers are told from two states, None if they are equal."""
    if one == other:
        return None
    early, late = _in_order(one, other)
    for events in _enders(query, early, late):
        ending = (*[("event", event) for event in events], ("end",))
        many = _first_unlike(query, one, other, ending)
        if many > 0:
            return ending[:many]
    return None


def _in_order(one, other):
    """Return two states, the one with the lesser live time first, one behind an end last."""
    if one == () or (other != () and other[0] < one[0]):
        return other, one
    return one, other


def _first_unlike(query, one, other, ending):
    """Return the number of letters up to the first at which unlike answers are told, 0 without one."""
    for number, letter in enumerate(ending):
        one, ones = step(query, one, letter)
        other, twos = step(query, other, letter)
        if ones != twos:
            return number + 1
    return 0


def _enders(query, early, late):
    """Return rows of events one of which, with an end, tells two unlike states apart."""
    ids = _outer_numbers(early, late)
    # what waits shows at the end alone, an event that one state keeps shows when it comes again
    found = [(), *[(event,) for event in unlike_parts(early[-1], late[-1] if late else ())]]
    if late == () or early[0] < late[0]:
        # behind the same events the later one is as it was, the other one is not
        found.extend(_live_enders(query, early, ids))
    whole = late or (early[0], *[() for _ in early[1:]])
    found.extend(_row_enders(query, early, whole, ids))
    return found


def _outer_numbers(early, late):
    """Return a number below all that stand in two states, and one above them."""
    numbers = _numbers_in(early) + _numbers_in(late)
    return min(numbers) - 1, max(numbers) + 1


def _numbers_in(value):
    if isinstance(value, int):
        return [value]
    if not isinstance(value, tuple):
        return []
    return [number for part in value for number in _numbers_in(part)]


def _live_enders(query, state, ids):
    """Return rows of events one of which shows that events of the live time change something."""
    if isinstance(query, Each):
        return [(made_event(query.side, {}, state[0], ids[1]),)]
    if isinstance(query, Windows):
        return window_live_enders(query, state, ids)
    if isinstance(query, Sessions):
        return session_live_enders(query, state, ids)
    if isinstance(query, Pairs):
        return pair_live_enders(query, state, ids)
    if isinstance(query, Lonely):
        return lonely_live_enders(query, state, ids)
    return []


def _row_enders(query, one, other, ids):
    """Return rows of events one of which shows that what is kept of the stream is unlike."""
    if isinstance(query, Windows):
        return window_enders(query, one, other, ids)
    if isinstance(query, Blocks):
        return block_enders(query, one, other, ids)
    if isinstance(query, Pairs):
        return pair_enders(query, one, other, ids)
    if isinstance(query, Lonely):
        return lonely_enders(query, one, other, ids)
    # of single events and sessions nothing else is kept that does not show at an end
    return []
