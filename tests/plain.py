"""The document's words on streams and meanings, counted in the plainest way, for tests alone."""

from streamsure.queries import Blocks, Each, Lonely, Pairs, Sessions, Windows


def stream(letters):
    """(the events taken, the mark, whether there was an end) of [4]."""
    taken, mark, over = set(), 0, False
    for letter in letters:
        if letter[0] == "end":
            over = True
        elif letter[0] == "mark":
            mark = max(mark, letter[1])
        elif not over and letter[1][1] >= mark:
            taken.add(letter[1])
    return taken, mark, over


def is_let(side, event):
    if event[0] != side.kind:
        return False
    for number, pairs in zip(event[3:], side.sets):
        if not any((low is None or low <= number) and (high is None or number <= high)
                   for low, high in pairs):
            return False
    return True


def named(side, names, event):
    places = {"time": 1, "id": 2, **{name: 3 + n for n, name in enumerate(side.fields)}}
    return tuple(event[places[name]] for name in names)


def worth(side, told, rows):
    numbers = [named(side, told[1:], row)[0] for row in rows] if told[1:] and told[0] != "atleast" else []
    return {
        "count": lambda: len(rows),
        "atleast": lambda: int(len(rows) >= told[1]),
        "sum": lambda: sum(numbers),
        "least": lambda: min(numbers),
        "greatest": lambda: max(numbers),
        "unlike": lambda: len(set(numbers)),
        "first": lambda: min(rows),
        "last": lambda: max(rows),
    }[told[0]]()


def worths(query, rows):
    return tuple(worth(query.side, told, rows) for told in query.worths)


def keyed(query, events):
    rows = [event for event in sorted(set(events)) if is_let(query.side, event)]
    keys = {named(query.side, query.by, event) for event in rows}
    return {key: [row for row in rows if named(query.side, query.by, row) == key] for key in keys}


def windows(query, events):
    found = []
    for key, rows in keyed(query, events).items():
        top = max(row[1] for row in rows)
        for start in range(-query.length * query.step, top + 1):
            here = [row for row in rows if start <= row[1] < start + query.length]
            if start % query.step == 0 and here:
                found.append((key, start, start + query.length, *worths(query, here)))
    return found


def blocks(query, events):
    found = []
    for key, rows in keyed(query, events).items():
        number = 0
        while len(rows) >= query.size:
            here, rows = rows[:query.size], rows[query.size:]
            found.append((key, number, here[0], here[-1], *worths(query, here)))
            number += 1
    return found


def sessions(query, events):
    found = []
    for key, rows in keyed(query, events).items():
        times = sorted({row[1] for row in rows})
        for first in times:
            if any(first - query.gap <= time < first for time in times):
                continue
            last = first
            while any(last < time <= last + query.gap for time in times):
                last = max(time for time in times if last < time <= last + query.gap)
            here = [row for row in rows if first <= row[1] <= last]
            found.append((key, first, last, *worths(query, here)))
    return found


def alike(query, one, other):
    return all(named(query.first, [a], one) == named(query.second, [b], other) for a, b in query.by)


def sided(query, events):
    ones = [event for event in sorted(set(events)) if is_let(query.first, event)]
    return ones, [event for event in sorted(set(events)) if is_let(query.second, event)]


def pairs(query, events):
    ones, twos = sided(query, events)
    found = []
    for one in ones:
        for other in twos:
            gap = other[1] - one[1]
            is_near = abs(gap) <= query.reach if query.mode == "near" else 0 < gap <= query.reach
            if is_near and alike(query, one, other):
                found.append(named(query.first, query.told[0], one)
                             + named(query.second, query.told[1], other))
    return found


def lonely(query, events):
    ones, twos = sided(query, events)
    return [
        named(query.first, query.told, one) for one in ones
        if not any(0 < other[1] - one[1] <= query.reach and alike(query, one, other) for other in twos)
    ]


def each(query, events):
    return [named(query.side, query.told, event) for event in set(events) if is_let(query.side, event)]


def meaning(query, events):
    count = {Each: each, Windows: windows, Blocks: blocks, Sessions: sessions, Pairs: pairs,
             Lonely: lonely}
    return sorted(count[query.__class__](query, events))
