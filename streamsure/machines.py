"""The machine of a query: it reads letter by letter, and tells what is certain, once.

A state is the empty tuple behind an end, and for an empty query; else its first
part is the live time, its last one the events that are kept whole.
"""

from streamsure.blockstates import blocks_at_end, blocks_at_event, blocks_at_mark
from streamsure.events import TIME, lets, sides_of, told_of
from streamsure.letters import letters_for
from streamsure.lonelystates import lonely_at_end, lonely_at_event, lonely_at_mark
from streamsure.pairstates import pairs_at_event, pairs_at_mark
from streamsure.queries import Blocks, Each, Pairs, Sessions, Windows
from streamsure.sessionstates import sessions_at_end, sessions_at_event, sessions_at_mark
from streamsure.windowstates import windows_at_end, windows_at_event, windows_at_mark


def start(query):
    """Return the first state."""
    if query.is_empty():
        return ()
    if isinstance(query, Each):
        return (0, ())
    if isinstance(query, (Windows, Blocks, Sessions)):
        return (0, (), ())
    return (0, (), (), ())


def step(query, state, letter):
    """Return the state behind a letter, and the ascending tuple of the answers told then."""
    if state == ():
        return (), ()
    if letter[0] == "end":
        return (), tuple(sorted(_at_end(query, state)))
    found, told = state, []
    if letter[0] == "mark":
        if letter[1] > state[0]:
            found, told = _at_mark(query, state, letter[1])
    elif is_seen(query, letter[1]) and letter[1][TIME] >= state[0] and letter[1] not in state[-1]:
        found, told = _at_event(query, state, letter[1])
    return found, tuple(sorted(told))


def run(query, letters):
    """Return the state behind some letters, and for each of them the tuple of what is told then."""
    state = start(query)
    told = []
    for letter in letters_for(query, letters):
        state, answers = step(query, state, letter)
        told.append(answers)
    return state, tuple(told)


def told_by(query, letters):
    """Return all that is told, an ascending tuple."""
    return tuple(sorted([answer for answers in run(query, letters)[1] for answer in answers]))


def is_seen(query, event):
    """Tell whether a side of the query lets an event through."""
    return any([lets(side, event) for side in sides_of(query)])


def _at_event(query, state, event):
    if isinstance(query, Each):
        kept = tuple(sorted([*state[1], event]))
        return (state[0], kept), [told_of(query.side, query.told, event)]
    if isinstance(query, Windows):
        return windows_at_event(query, state, event)
    if isinstance(query, Blocks):
        return blocks_at_event(query, state, event)
    if isinstance(query, Sessions):
        return sessions_at_event(query, state, event)
    if isinstance(query, Pairs):
        return pairs_at_event(query, state, event)
    return lonely_at_event(query, state, event)


def _at_mark(query, state, mark):
    if isinstance(query, Each):
        return (mark, tuple([event for event in state[1] if event[TIME] >= mark])), []
    if isinstance(query, Windows):
        return windows_at_mark(query, state, mark)
    if isinstance(query, Blocks):
        return blocks_at_mark(query, state, mark)
    if isinstance(query, Sessions):
        return sessions_at_mark(query, state, mark)
    if isinstance(query, Pairs):
        return pairs_at_mark(query, state, mark)
    return lonely_at_mark(query, state, mark)


def _at_end(query, state):
    if isinstance(query, (Each, Pairs)):
        return []
    if isinstance(query, Windows):
        return windows_at_end(query, state)
    if isinstance(query, Blocks):
        return blocks_at_end(query, state)
    if isinstance(query, Sessions):
        return sessions_at_end(query, state)
    return lonely_at_end(query, state)
