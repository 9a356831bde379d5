"""Draws queries, letters and endings; the same ones each time, from a seed."""

from streamsure.queries import Blocks, Each, Kinds, Lonely, Pairs, Sessions, Side, Windows

KINDS = Kinds({"a": ("k", "v", "w"), "b": ("k", "x"), "c": ()})
SETS = (
    [(None, None)], [(0, 1)], [(0, 0)], [(1, 3)], [(0, None)], [(None, 2)], [(5, 5)],
    [(0, 0), (2, 2)], [(1, 1)],
)
SHAPES = (Each, Windows, Blocks, Sessions, Pairs, Lonely)
FIELD_WORTHS = ("sum", "least", "greatest", "unlike")


def letters_of(events):
    return [("event", event) for event in events]


def draw_where(draw, fields, with_empty):
    where = {field: draw.choice(SETS) for field in fields if draw.random() < 0.5}
    if with_empty and draw.random() < 0.05:
        where[draw.choice(fields)] = []
    return where


def draw_worths(draw, by, barred):
    words = [word for word in ("count", "atleast", "first", "last", *FIELD_WORTHS) if word not in barred]
    free = [field for field in ("k", "v", "w") if field not in by]
    worths = []
    for _ in range(draw.choice((0, 1, 1, 2))):
        word = draw.choice(words)
        if word == "atleast":
            worths.append((word, draw.choice((1, 1, 2, 3))))
        elif word in FIELD_WORTHS:
            worths.append((word, draw.choice(free)))
        else:
            worths.append((word,))
    return worths


def draw_query(draw, shape=None, with_empty=True):
    shape = shape or draw.choice(SHAPES)
    first = Side(KINDS, "a", draw_where(draw, ("k", "v", "w"), with_empty))
    second = Side(KINDS, "b", draw_where(draw, ("k", "x"), with_empty))
    by = draw.choice(((), ("k",), ("k",), ("v",), ("k", "v")))
    told = draw.choice(((), ("v",), ("id",), ("time", "k"), ("v", "v")))
    if shape is Each:
        return Each(first, told)
    if shape is Windows:
        length = draw.randint(1, 5)
        step = draw.choice((length, draw.randint(1, length)))
        return Windows(first, by, length, step, draw_worths(draw, by, ()))
    if shape is Blocks:
        barred = ("first", "last", "atleast")
        return Blocks(first, by, draw.randint(1, 3), draw_worths(draw, by, barred))
    if shape is Sessions:
        return Sessions(first, by, draw.randint(1, 3), draw_worths(draw, by, ("atleast", "unlike")))
    on = draw.choice(((), (("k", "k"),), (("k", "k"),), (("k", "k"), ("v", "x")), (("v", "k"),)))
    if on == () and draw.random() < 0.3:
        second = Side(KINDS, "c", {})
    if shape is Lonely:
        return Lonely(first, second, on, draw.randint(1, 3), told)
    mode = draw.choice(("near", "behind"))
    other = draw.choice(((), ("time",), ("id",)))
    return Pairs(first, second, on, mode, draw.randint(0 if mode == "near" else 1, 3), (told, other))


def draw_narrow(draw):
    """A query of finite sets, of windows, sessions or lonely events: its live time is often lifted."""
    small = ([(0, 0)], [(0, 1)], [(0, 1)])
    first = Side(KINDS, "a", {field: draw.choice(small) for field in ("k", "v", "w")})
    by = draw.choice(((), (), ("k",)))
    shape = draw.choice((Windows, Windows, Sessions, Lonely))
    if shape is Lonely:
        second = Side(KINDS, "b", {"k": draw.choice(([(0, 1)], [(0, 0)], [(None, None)]))})
        return Lonely(first, second, draw.choice(((), (("k", "k"),))), draw.randint(1, 5), ("v",))
    words = draw.choice(((), ("first",), ("last",), ("first", "last"), ("least",), ("greatest", "last"), ("count",)))
    worths = [(word,) if word in ("first", "last", "count") else (word, draw.choice("vw")) for word in words]
    if shape is Sessions:
        return Sessions(first, by, draw.randint(1, 3), worths)
    worths += draw.choice(([], [], [("unlike", "v")], [("atleast", 1)], [("atleast", 2)], [("sum", "w")]))
    length = draw.randint(1, 6)
    return Windows(first, by, length, draw.choice((length, length, draw.randint(1, length))), worths)


def draw_narrow_letters(draw, query, many, top):
    """Letters most of whose events a query of draw_narrow lets through."""
    letters = []
    for _ in range(many):
        time, number = draw.randint(0, top), draw.choice((0, 0, 1, -1))
        if draw.random() < 0.25:
            letters.append(("mark", time))
        elif isinstance(query, Lonely) and draw.random() < 0.55:
            letters.append(("event", ("b", time, number, draw.randint(0, 1), 0)))
        else:
            letters.append(("event", ("a", time, number, *[draw.choice((0, 0, 1)) for _ in range(3)])))
    return letters


def draw_event(draw, top):
    kind = draw.choice("aaabbc")
    time, number = draw.randint(0, top), draw.choice((0, 0, 0, 1, -1))
    if kind == "a":
        return ("a", time, number, draw.choice((0, 1, 2, 5)), draw.choice((-1, 0, 1, 2, 3, 5)),
                draw.choice((0, 1, 2)))
    if kind == "b":
        return ("b", time, number, draw.choice((0, 1, 2, 5)), draw.choice((0, 1, 2, 5)))
    return ("c", time, number)


def draw_letters(draw, many, top, ends=0.0):
    """Some letters: events, marks, doublings, and ends as often as told."""
    letters = []
    for _ in range(many):
        chance = draw.random()
        if chance < ends:
            letters.append(("end",))
        elif chance < 0.3:
            letters.append(("mark", draw.randint(0, top)))
        elif letters and chance < 0.4:
            letters.append(draw.choice(letters))
        else:
            letters.append(("event", draw_event(draw, top)))
    return letters


def draw_near(draw, letters, top):
    """Letters that are a little unlike some others."""
    found = list(letters)
    for _ in range(draw.choice((1, 1, 2))):
        chance = draw.random()
        if found and chance < 0.3:
            found.pop(draw.randrange(len(found)))
        elif found and chance < 0.5:
            found[draw.randrange(len(found))] = draw_letters(draw, 1, top)[0]
        else:
            found.insert(draw.randint(0, len(found)), draw_letters(draw, 1, top, 0.1)[0])
    return found
