"""Machines that fall and start again from what is stored; the sink counts each answer once."""

from streamsure.checks import is_integer
from streamsure.fallerrors import BadPlace
from streamsure.letters import letters_for
from streamsure.machines import run, start, step
from streamsure.statetexts import state_by, value_text
from streamsure.storing import check_cut, newest, place_for, torn, whole_text, with_text

SEND = "send"
STORE = "store"


def actions_from(query, letters, every, places):
    """Return all that a machine does from what is stored on."""
    rows = letters_for(query, letters)
    if not is_integer(every) or every < 1:
        raise BadPlace(every)
    number, read, told, state = _begin(query, places)
    found = []
    for place, letter in enumerate(rows[read:], start=read + 1):
        state, answers = step(query, state, letter)
        for answer in answers:
            found.append((SEND, told, answer))
            told += 1
        if place % every == 0:
            found.append((STORE, number, whole_text(number, value_text((place, told, state)))))
            number += 1
    return tuple(found)


def _begin(query, places):
    """Return the next text's number, how many letters are read and answers told, and the state."""
    stored = newest(places)
    if stored is None:
        return 0, 0, 0, start(query)
    number, body = stored
    read, told, state = state_by(body)
    return number + 1, read, told, state


class Sink:
    """Keeps what is sent to it: of each number the first answer alone."""

    def __init__(self):
        self.kept = {}

    def take(self, number, answer):
        """Keep an answer if none of its number is kept."""
        if number not in self.kept:
            self.kept[number] = answer

    def answers(self):
        """Return the answers from number 0 up to the first number that lacks."""
        found = []
        while len(found) in self.kept:
            found.append(self.kept[len(found)])
        return tuple(found)


class World:
    """A machine, what it reads, the two places where it stores, and where it sends."""

    def __init__(self, query, letters, every):
        self.query = query
        self.letters = tuple(letters)
        self.every = every
        self.places = ("", "")
        self.sink = Sink()
        self.actions = actions_from(query, self.letters, every, self.places)

    def live(self, many, cut, is_over):
        """Do so many actions, perhaps a part of a store that comes next, then fall."""
        if not is_integer(many) or not 0 <= many <= len(self.actions):
            raise BadPlace(many)
        is_cut = cut is not None and self._is_store(many)
        if is_cut:
            check_cut(self.actions[many][2], cut)
        self._do(many)
        if is_cut:
            _, number, text = self.actions[0]
            old = self.places[place_for(number)]
            self.places = with_text(self.places, number, torn(old, text, cut, is_over))
        self.actions = actions_from(self.query, self.letters, self.every, self.places)

    def _is_store(self, many):
        """Tell whether a store comes next behind so many actions."""
        return many < len(self.actions) and self.actions[many][0] == STORE

    def finish(self):
        """Do all that is left."""
        self._do(len(self.actions))

    def _do(self, many):
        for word, number, thing in self.actions[:many]:
            if word == SEND:
                self.sink.take(number, thing)
            else:
                self.places = with_text(self.places, number, thing)
        self.actions = self.actions[many:]


def plain_answers(query, letters):
    """Return all that a machine that never falls tells, in its order."""
    return tuple([answer for answers in run(query, letters)[1] for answer in answers])
