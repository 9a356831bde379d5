"""Many machines of one query, each with keys of its own, and keys that move from one to another."""

from streamsure.fallerrors import BadPlace
from streamsure.letters import letters_for
from streamsure.lonelystates import lonely_settled
from streamsure.machines import is_seen, start, step
from streamsure.queries import Lonely, Sessions, Windows
from streamsure.reaching import key_of_event
from streamsure.sessionstates import sessions_settled
from streamsure.windowstates import windows_settled

SPREAD = 31


def key_of(query, event):
    """Return the key of an event, of a single event the event itself."""
    return key_of_event(query, event)


class Split:
    """Which machine takes the events of a key."""

    def __init__(self, many, told):
        self.many = many
        self.told = {key: told[key] for key in told}

    def machine_of(self, key):
        """Return the machine that is told, else one that hangs on the key alone."""
        if key in self.told:
            return self.told[key]
        number = 0
        for part in key:
            number = number * SPREAD + _number_of(part)
        return number % self.many


def _number_of(part):
    """Return a number for a part of a key: the kind of a single event is a word."""
    return len(part) if isinstance(part, str) else part


def split_start(query, split):
    """Return the tuple of the first states of all machines."""
    return tuple([start(query) for _ in range(split.many)])


def split_step(query, split, states, letter):
    """Return all states behind a letter, and what each machine tells then."""
    takers = _takers(query, split, letter)
    found = []
    told = []
    for machine, state in enumerate(states):
        answers = ()
        if machine in takers:
            state, answers = step(query, state, letter)
        found.append(state)
        told.append(answers)
    return tuple(found), tuple(told)


def _takers(query, split, letter):
    """Return the machines to which a letter goes."""
    if letter[0] != "event":
        return list(range(split.many))
    return [split.machine_of(key_of(query, letter[1]))] if is_seen(query, letter[1]) else []


def split_run(query, split, letters):
    """Return all states behind some letters, and for each of them what each machine tells then."""
    states = split_start(query, split)
    told = []
    for letter in letters_for(query, letters):
        states, answers = split_step(query, split, states, letter)
        told.append(answers)
    return states, tuple(told)


def together(told):
    """Return the ascending tuple of what all machines tell."""
    return tuple(sorted([answer for answers in told for answer in answers]))


def mark_of(query, state):
    """Return the least time from the mark on at which some event can change something, None if none can."""
    return None if state == () else state[0]


def moved_key(query, one, other, key):
    """Return two states, what the first one keeps of a key moved to the second one."""
    if mark_of(query, one) is None or mark_of(query, other) is None:
        return one, other
    if one[0] != other[0]:
        raise BadPlace(key)
    left, taken = [], []
    for rows in one[1:-1]:
        left.append(tuple([row for row in rows if row[0] != key]))
        taken.append([row for row in rows if row[0] == key])
    left.append(tuple([event for event in one[-1] if key_of(query, event) != key]))
    taken.append([event for event in one[-1] if key_of(query, event) == key])
    joined = [tuple(sorted([*ones, *twos])) for ones, twos in zip(other[1:], taken)]
    return (one[0], *left), _settled(query, (other[0], *joined))


def _settled(query, state):
    """Return a state whose live time is lifted as far as what is kept now allows."""
    if isinstance(query, Windows):
        return windows_settled(query, state)
    if isinstance(query, Sessions):
        return sessions_settled(query, state)
    if isinstance(query, Lonely):
        return lonely_settled(query, state)
    return state
