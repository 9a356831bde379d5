"""Finite tables: the states of a query, numbered, with the moves from each to the next ones.

The states of a finite query keep no events whole, only windows. So an event
counts by the windows in which its time lies, by its key and by its numbers for
worths; and states count once that are alike when all times are less by a
multiple of the step.
"""

from streamsure.checks import FIELD_WORTHS
from streamsure.errors import BadLetter, NotFinite, TooMany
from streamsure.events import TIME, how_many_keys, key_fields, made_event, told_of
from streamsure.letters import is_letter_for
from streamsure.machines import is_seen, start, step
from streamsure.queries import Windows
from streamsure.worths import ZERO_ALONE

TICK = ()
FINITE_WORTHS = ("least", "greatest", "unlike")


class Table:
    """All that run_table asks for: states, what an end tells in each, and moves.

    Each state's live time is below the step. A move is (number of the next
    state, by how much its times are less, what is told).
    """

    def __init__(self, query, ahead, states, moves):
        self.query = query
        self.ahead = ahead
        self.lives = [state[0] for state in states]
        self.ends = [step(query, state, ("end",))[1] for state in states]
        self.moves = moves
        self.many = len(states)


class StateNumbers:
    """Numbers states in the order in which they are found."""

    def __init__(self, most):
        self.most = most
        self.states = []
        self.numbers = {}

    def number_of(self, state):
        if state not in self.numbers:
            if len(self.states) >= self.most:
                raise TooMany(self.most)
            self.numbers[state] = len(self.states)
            self.states.append(state)
        return self.numbers[state]


def is_finite(query):
    """Tell whether letters that are not too far ahead lead to finitely many unlike states."""
    if not isinstance(query, Windows) or query.is_empty():
        return False
    if not all([_is_finite_worth(query.side, worth) for worth in query.worths]):
        return False
    return how_many_keys(query.side, _counting_fields(query)) is not None


def _is_finite_worth(side, worth):
    if worth[0] == "sum":
        return side.set_of(worth[1]) == ZERO_ALONE
    return worth == ("atleast", 1) or worth[0] in FINITE_WORTHS


def _counting_fields(query):
    """Return the fields of the key and of worths, each one once."""
    fields = {name: True for name in query.by}
    for worth in query.worths:
        if worth[0] in FIELD_WORTHS:
            fields[worth[1]] = True
    return tuple(fields)


def table_of(query, ahead, most):
    """Return the table of a finite query that has at most so many states."""
    if not is_finite(query):
        raise NotFinite()
    if how_many_keys(query.side, _counting_fields(query)) > most:
        # single events with unlike numbers lead to unlike states
        raise TooMany(most)
    rows = _number_rows(query.side, _counting_fields(query))
    known = StateNumbers(most)
    known.number_of(start(query))
    moves = []
    while len(moves) < len(known.states):
        moves.append(_moves_from(query, ahead, rows, known, known.states[len(moves)]))
    return Table(query, ahead, known.states, moves)


def _number_rows(side, fields):
    """Return all rows of numbers that fields of finite sets can have."""
    rows = [()]
    for field in fields:
        numbers = [number for low, high in side.set_of(field) for number in range(low, high + 1)]
        rows = [(*row, number) for row in rows for number in numbers]
    return rows


def _moves_from(query, ahead, rows, known, state):
    """Return the moves from a state: by a tick, and by each event that counts by itself."""
    moves = {TICK: _move(query, known, state, ("mark", state[0] + 1))}
    time = state[0]
    while time <= state[0] + ahead:
        for row in rows:
            event = made_event(query.side, key_fields(_counting_fields(query), row), time, 0)
            moves[time, row] = _move(query, known, state, ("event", event))
        time = _next_border(query, time)
    return moves


def _move(query, known, state, letter):
    found, told = step(query, state, letter)
    shift = found[0] - found[0] % query.step
    return known.number_of(_earlier_state(found, shift)), shift, told


def _earlier_state(state, shift):
    live, rows, kept = state
    return (live - shift, tuple([(key, begin - shift, states) for key, begin, states in rows]), kept)


def _next_border(query, time):
    """Return the next time that lies in other windows: one begins there, or one has just ended."""
    begins = (time // query.step + 1) * query.step
    return min(begins, ((time - query.length) // query.step + 1) * query.step + query.length)


def _last_border(query, time):
    """Return the first of the times up to this one that lie in the same windows."""
    begins = time // query.step * query.step
    return max(begins, (time - query.length) // query.step * query.step + query.length)


def run_table(table, letters):
    """Return the tuple of what is told at each letter."""
    found = []
    spot = (0, 0)
    for number, letter in enumerate(tuple(letters)):
        if not is_letter_for(table.query, letter) or _is_too_far(table, spot, letter):
            raise BadLetter(number)
        spot, told = _read(table, spot, letter)
        found.append(tuple(sorted(told)))
    return tuple(found)


def _is_too_far(table, spot, letter):
    if spot is None or letter[0] != "event" or not is_seen(table.query, letter[1]):
        return False
    return letter[1][TIME] > _live_time(table, spot) + table.ahead


def _read(table, spot, letter):
    """Return the spot behind a letter, None behind an end, and what is told then."""
    if spot is None:
        return None, []
    if letter[0] == "end":
        return None, _later_answers(table.ends[spot[0]], spot[1])
    told = []
    if letter[0] == "mark":
        while _live_time(table, spot) < letter[1]:
            spot, answers = _go(table, spot, TICK)
            told.extend(answers)
    elif is_seen(table.query, letter[1]) and letter[1][TIME] >= _live_time(table, spot):
        spot, told = _go(table, spot, _event_sign(table, spot, letter[1]))
    return spot, told


def _live_time(table, spot):
    """Return the live time at a spot: the number of a state, and by how much its times are less."""
    return table.lives[spot[0]] + spot[1]


def _event_sign(table, spot, event):
    """Return by what an event counts in the state of a spot."""
    time = max(table.lives[spot[0]], _last_border(table.query, event[TIME] - spot[1]))
    return (time, told_of(table.query.side, _counting_fields(table.query), event))


def _go(table, spot, sign):
    """Return the spot behind a move, and what is told there."""
    number, shift, told = table.moves[spot[0]][sign]
    return (number, spot[1] + shift), _later_answers(told, spot[1])


def _later_answers(told, shift):
    return [(answer[0], answer[1] + shift, answer[2] + shift, *answer[3:]) for answer in told]
