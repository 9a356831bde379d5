"""Boxes: an interval for each field of a kind; which queries let the events in them through.

Queries are numbered; of each one that lets some events of the kind through
there is a SideSets. What is open for a box is a dict from those that let some
of its events through to the fields that still hold others of its events back.
"""

from streamsure.sets import NOTHING, others

WHOLE = (None, None)


class SideSets:
    """The sets of a side's fields, and what is not in them."""

    def __init__(self, side):
        self.inner = side.sets
        self.outer = tuple([others(one) for one in side.sets])


def whole_box(many):
    """Return the box of all events of a kind with so many fields."""
    return (WHOLE,) * many


def whole_open(sides):
    """Return what is open for the box of all events."""
    return {query: _holding_fields(sides[query]) for query in sides}


def _holding_fields(sets):
    return tuple([field for field, one in enumerate(sets.outer) if one != NOTHING])


def cut_box(box, field, interval):
    """Return the part of a box in which a field is in an interval, None if there is none."""
    low, high = _both(box[field], interval)
    if low is not None and high is not None and low > high:
        return None
    return (*box[:field], (low, high), *box[field + 1:])


def cut_open(sides, ahead, box, field):
    """Return what is open for a box that was cut in a field, from what was open ahead of it."""
    found = {}
    for query, fields in ahead.items():
        if field not in fields:
            found[query] = fields
        elif _meets(sides[query].inner[field], box[field]):
            is_held = _meets(sides[query].outer[field], box[field])
            found[query] = fields if is_held else tuple([one for one in fields if one != field])
    return found


def _meets(one, interval):
    """Tell whether some member of a set is in an interval."""
    begin, end = interval
    for low, high in one:
        if (high is None or begin is None or begin <= high) and (low is None or end is None or low <= end):
            return True
    return False


def _both(one, other):
    """Return the low and the high end of what is in two intervals."""
    lows = [low for low, high in (one, other) if low is not None]
    highs = [high for low, high in (one, other) if high is not None]
    return max(lows, default=None), min(highs, default=None)


def some_numbers(box):
    """Return numbers of fields in a box, which is not empty."""
    return [_some_number(interval) for interval in box]


def _some_number(interval):
    low, high = interval
    if low is None:
        return 0 if high is None else high
    return low


def wrong_numbers(sides, still_open, box, lot):
    """Return numbers in a box that not just the queries of a lot let through, None without any."""
    for query in lot:
        if query not in still_open:
            return some_numbers(box)
        if still_open[query]:
            field = still_open[query][0]
            number = _number_in(sides[query].outer[field], box[field])
            return [*some_numbers(box[:field]), number, *some_numbers(box[field + 1:])]
    for query in still_open:
        if query not in lot:
            return [_number_in(one, interval) for one, interval in zip(sides[query].inner, box)]
    return None


def _number_in(one, interval):
    """Return a member of a set that is in an interval, which it meets."""
    parts = [part for part in one if _meets([part], interval)]
    return _some_number(_both(parts[0], interval))
