"""Kinds of events, sides that let events through, and the six shapes of queries."""

from streamsure.checks import is_integer, is_pair, is_row_of_intervals, key_names, key_pairs
from streamsure.checks import kind_row, number_from, told_names, worth_row
from streamsure.errors import BadQuery
from streamsure.sets import EVERYTHING, NOTHING, meet, normal

BARRED_IN_BLOCKS = ("first", "last", "atleast")
BARRED_IN_SESSIONS = ("atleast", "unlike")


class Kinds:
    """The kinds of events, each with the names of its fields."""

    def __init__(self, fields):
        for kind in fields:
            # what is no text has no place among names that ascend
            if not isinstance(kind, str):
                raise BadQuery("name")
        self.fields = {kind: kind_row(kind, fields[kind]) for kind in sorted(fields)}

    def is_event(self, thing):
        """Tell whether a thing, whatever it may be, is an event of these kinds."""
        if not isinstance(thing, tuple) or not thing:
            return False
        kind, *numbers = thing
        if not isinstance(kind, str) or kind not in self.fields:
            return False
        if len(numbers) != 2 + len(self.fields[kind]):
            return False
        return all([is_integer(number) for number in numbers]) and numbers[0] >= 0


class Side:
    """What lets events of one kind through whose fields are in sets."""

    def __init__(self, kinds, kind, where):
        if not isinstance(kind, str) or kind not in kinds.fields:
            raise BadQuery("kind")
        self.kinds = kinds
        self.kind = kind
        self.fields = kinds.fields[kind]
        for field, pairs in where.items():
            if field not in self.fields:
                raise BadQuery("field")
            if not is_row_of_intervals(pairs):
                raise BadQuery("set")
        # one set for each field, in the kind's order: so each side has one form
        self.sets = tuple([normal(where.get(field, EVERYTHING)) for field in self.fields])

    def form(self):
        return ("side", self.kind, self.sets)

    def is_empty(self):
        """Tell whether no event is let through."""
        return NOTHING in self.sets

    def set_of(self, field):
        """Return the set in which the numbers of a field must be."""
        return self.sets[self.fields.index(field)]


class Each:
    """Tells something of each event."""

    def __init__(self, side, told):
        self.side = side
        self.told = told_names(told, side)

    def form(self):
        return ("each", self.side.form(), self.told)

    def is_empty(self):
        return self.side.is_empty()


class Windows:
    """Tells worths of the events of each key in each window of time."""

    def __init__(self, side, by, length, step, worths):
        self.side = side
        self.by = key_names(by, side)
        self.length = number_from(1, length, "length")
        self.step = number_from(1, step, "step")
        if step > length:
            raise BadQuery("step")
        self.worths = worth_row(worths, (), side, self.by)

    def form(self):
        return ("windows", self.side.form(), self.by, self.length, self.step, self.worths)

    def is_empty(self):
        return self.side.is_empty()


class Blocks:
    """Tells worths of each so many events of a key, in their order."""

    def __init__(self, side, by, size, worths):
        self.side = side
        self.by = key_names(by, side)
        self.size = number_from(1, size, "size")
        self.worths = worth_row(worths, BARRED_IN_BLOCKS, side, self.by)

    def form(self):
        return ("blocks", self.side.form(), self.by, self.size, self.worths)

    def is_empty(self):
        return self.side.is_empty()


class Sessions:
    """Tells worths of the longest rows of a key's events without a greater gap."""

    def __init__(self, side, by, gap, worths):
        self.side = side
        self.by = key_names(by, side)
        self.gap = number_from(1, gap, "gap")
        self.worths = worth_row(worths, BARRED_IN_SESSIONS, side, self.by)

    def form(self):
        return ("sessions", self.side.form(), self.by, self.gap, self.worths)

    def is_empty(self):
        return self.side.is_empty()


class Pairs:
    """Tells something of each two events of two kinds that are alike and near."""

    def __init__(self, first, second, by, mode, reach, told):
        self.first = first
        self.second = second
        self.by = key_pairs(first, second, by)
        if mode not in ("near", "behind"):
            raise BadQuery("mode")
        self.mode = mode
        self.reach = number_from(0 if mode == "near" else 1, reach, "reach")
        if not is_pair(told):
            raise BadQuery("field")
        self.told = (told_names(told[0], first), told_names(told[1], second))

    def form(self):
        sides = (self.first.form(), self.second.form())
        return ("pairs", *sides, self.by, self.mode, self.reach, self.told)

    def is_empty(self):
        if self.first.is_empty() or self.second.is_empty():
            return True
        # a key's fields are free of each other, so one without a common number is enough
        return any([not self._common(one, other) for one, other in self.by])

    def _common(self, one, other):
        return meet(self.first.set_of(one), self.second.set_of(other))


class Lonely:
    """Tells something of each event that no event of another kind follows soon."""

    def __init__(self, first, second, by, reach, told):
        self.first = first
        self.second = second
        self.by = key_pairs(first, second, by)
        self.reach = number_from(1, reach, "reach")
        self.told = told_names(told, first)

    def form(self):
        return ("lonely", self.first.form(), self.second.form(), self.by, self.reach, self.told)

    def is_empty(self):
        # without any event of the second side all events of the first one are told
        return self.first.is_empty()
