"""A shell: scripts of a book and commands, and the lines that come when they are run."""

from streamsure.booklines import BookLine
from streamsure.comparing import are_same
from streamsure.errors import BadText
from streamsure.language import read_book
from streamsure.machines import start, step
from streamsure.meaning import stream_of
from streamsure.statetexts import value_text
from streamsure.waiting import waiting_for

GO = "go"
LETTER = "letter"
TOLD = "told"
WAITS = "waits"
SAME = "same"
UNLIKE = "unlike"


class Script:
    """A book, and commands: each is a word and what it goes with."""

    def __init__(self, book, commands):
        self.book = book
        self.commands = tuple(commands)


def read_script(text):
    """Return the script that a text writes."""
    lines = text.split("\n")
    if GO not in lines:
        read_book(text)
        raise BadText(len(lines), 0)
    begin = lines.index(GO)
    book = read_book("\n".join(lines[:begin]))
    rows = [BookLine(number, line) for number, line in enumerate(lines)]
    return Script(book, [_read_command(line, book) for line in rows[begin + 1:]])


def _read_command(line, book):
    """Return the command of a line."""
    names = [name for name, query in book.queries]
    if line.skip("event"):
        command = (LETTER, ("event", _read_event(line, book.kinds.fields)))
    elif line.skip("mark"):
        command = (LETTER, ("mark", line.natural()))
    elif line.skip("end"):
        command = (LETTER, ("end",))
    elif line.skip(TOLD):
        command = (TOLD, line.one_of(names))
    elif line.skip(WAITS):
        command = (WAITS, line.one_of(names))
    else:
        line.need(SAME)
        command = (SAME, (line.one_of(names), line.one_of(names)))
    line.finish()
    return command


def _read_event(line, fields):
    kind = line.one_of(fields)
    time = line.natural()
    return (kind, time, line.integer(), *[line.integer() for _ in fields[kind]])


class Play:
    """What a script's commands have made of its queries so far, and the lines that came."""

    def __init__(self, book):
        self.queries = {name: query for name, query in book.queries}
        self.states = {name: start(query) for name, query in book.queries}
        self.counts = {name: 0 for name in self.queries}
        self.letters = []
        self.lines = []

    def read(self, letter):
        """Let a letter go to all queries."""
        self.letters.append(letter)
        for name, query in self.queries.items():
            self.states[name], answers = step(query, self.states[name], letter)
            self.counts[name] += len(answers)
            self._answer_lines(name, answers)

    def _answer_lines(self, begin, answers):
        self.lines.extend([f"{begin} {value_text(answer)}" for answer in answers])

    def ask_told(self, name):
        self.lines.append(f"{TOLD} {name} {self.counts[name]}")

    def ask_waits(self, name):
        events, mark, is_over = stream_of(self.letters)
        if not is_over:
            rows = waiting_for(self.queries[name], events, mark)
            self._answer_lines(f"{WAITS} {name}", [answer for answer, ending in rows])

    def ask_same(self, names):
        one, other = names
        self.lines.append(SAME if are_same(self.queries[one], self.queries[other]) else UNLIKE)


def run_script(text):
    """Return the list of the lines that come."""
    script = read_script(text)
    play = Play(script.book)
    for word, thing in script.commands:
        if word == LETTER:
            play.read(thing)
        elif word == TOLD:
            play.ask_told(thing)
        elif word == WAITS:
            play.ask_waits(thing)
        else:
            play.ask_same(thing)
    return play.lines
