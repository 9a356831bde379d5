"""Answers as they stand now: what comes and what goes; and marks made by a told lateness."""

from streamsure.events import TIME
from streamsure.letters import letters_for, plain_letters
from streamsure.machines import is_seen
from streamsure.meaning import meaning
from streamsure.reaching import key_of_event


def changes(query, letters):
    """Return for each letter the pair of what comes and what goes, ascending tuples."""
    found = []
    taken = {}
    mark = 0
    is_over = False
    for letter in letters_for(query, letters):
        change = ((), ())
        if letter[0] == "end":
            is_over = True
        elif letter[0] == "mark":
            mark = max(mark, letter[1])
        elif not is_over and letter[1][TIME] >= mark and is_seen(query, letter[1]):
            # what stands there of a key hangs on the events of this key alone
            row = taken.setdefault(key_of_event(query, letter[1]), {})
            change = _change(query, list(row), letter[1])
            row[letter[1]] = True
        found.append(change)
    return tuple(found)


def _change(query, events, event):
    """Return what comes and what goes with an event."""
    before = _counted(meaning(query, events))
    after = _counted(meaning(query, [*events, event]))
    return _more(after, before), _more(before, after)


def _counted(answers):
    counts = {}
    for answer in answers:
        counts[answer] = counts.get(answer, 0) + 1
    return counts


def _more(ones, twos):
    """Return what stands more often in the first counts, which ascend, than in the second ones."""
    found = []
    for answer in ones:
        found.extend([answer] * (ones[answer] - twos.get(answer, 0)))
    return tuple(found)


def marked(letters, late):
    """Return the letters with a mark right behind each event that is later than all ahead of it."""
    found = []
    mark = 0
    for letter in plain_letters(letters):
        found.append(letter)
        if letter[0] == "event" and letter[1][TIME] - late > mark:
            mark = letter[1][TIME] - late
            found.append(("mark", mark))
    return tuple(found)


def least_lateness(letters):
    """Return the least lateness with which no event, doublings aside, comes too late."""
    late = 0
    newest = 0
    seen = {}
    for letter in plain_letters(letters):
        if letter[0] == "event" and letter[1] not in seen:
            seen[letter[1]] = True
            late = max(late, newest - letter[1][TIME])
            newest = max(newest, letter[1][TIME])
    return late
