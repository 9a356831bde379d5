"""Lines of books: their words are read one by one, and written again."""

from streamsure.errors import BadText
from streamsure.queries import Blocks, Each, Lonely, Pairs, Sessions, Side, Windows
from streamsure.sets import EVERYTHING
from streamsure.words import integer_of, intervals_of, is_free_name, names_of_pair, set_word, worth_of
from streamsure.words import worth_word

MODES = ("near", "behind")


class BookLine:
    """The words of a line, and the place of the next one to be read."""

    def __init__(self, number, text):
        self.number = number
        self.words = text.split(" ")
        self.place = 0

    def next_word(self):
        """Return the next word, None if there is none."""
        return self.words[self.place] if self.place < len(self.words) else None

    def skip(self, wanted):
        """Go on behind the next word if it is the wanted one, and tell whether it is."""
        if self.next_word() != wanted:
            return False
        self.place += 1
        return True

    def need(self, wanted):
        """Go on behind a word that must stand here."""
        if not self.skip(wanted):
            raise BadText(self.number, self.place)

    def name(self):
        """Return the name that must stand here."""
        word = self.next_word()
        if not is_free_name(word):
            raise BadText(self.number, self.place)
        self.place += 1
        return word

    def names(self):
        """Return all names from here on up to a word that is none."""
        found = []
        while is_free_name(self.next_word()):
            found.append(self.name())
        return found

    def integer(self):
        """Return the integer that must stand here."""
        word = self.next_word()
        number = None if word is None else integer_of(word)
        if number is None:
            raise BadText(self.number, self.place)
        self.place += 1
        return number

    def natural(self):
        """Return the integer from 0 on that must stand here."""
        number = self.integer()
        if number < 0:
            raise BadText(self.number, self.place - 1)
        return number

    def one_of(self, known):
        """Return the word that must stand here, one of the known ones."""
        word = self.next_word()
        if word not in known:
            raise BadText(self.number, self.place)
        self.place += 1
        return word

    def finish(self):
        """Make sure that no word is left."""
        if self.place < len(self.words):
            raise BadText(self.number, self.place)


def read_query(line, kinds):
    """Return the query whose shape and parts are the rest of a line."""
    if line.skip("each"):
        return _read_each(line, kinds)
    if line.skip("windows"):
        return _read_windows(line, kinds)
    if line.skip("blocks"):
        return _read_blocks(line, kinds)
    if line.skip("sessions"):
        return _read_sessions(line, kinds)
    if line.skip("pairs"):
        return _read_pairs(line, kinds)
    if line.skip("lonely"):
        return _read_lonely(line, kinds)
    raise BadText(line.number, line.place)


def _read_each(line, kinds):
    kind, where = _read_side(line)
    line.need("tell")
    told = line.names()
    line.finish()
    return Each(Side(kinds, kind, where), told)


def _read_windows(line, kinds):
    kind, where = _read_side(line)
    by = _read_by(line)
    line.need("length")
    length = line.integer()
    line.need("step")
    step = line.integer()
    worths = _read_worths(line)
    return Windows(Side(kinds, kind, where), by, length, step, worths)


def _read_blocks(line, kinds):
    kind, where = _read_side(line)
    by = _read_by(line)
    line.need("size")
    size = line.integer()
    worths = _read_worths(line)
    return Blocks(Side(kinds, kind, where), by, size, worths)


def _read_sessions(line, kinds):
    kind, where = _read_side(line)
    by = _read_by(line)
    line.need("gap")
    gap = line.integer()
    worths = _read_worths(line)
    return Sessions(Side(kinds, kind, where), by, gap, worths)


def _read_pairs(line, kinds):
    kind, where = _read_side(line)
    line.need("with")
    other_kind, other_where = _read_side(line)
    by = _read_on(line)
    mode = line.one_of(MODES)
    reach = line.integer()
    line.need("tell")
    told = line.names()
    line.need("/")
    other_told = line.names()
    line.finish()
    first, second = Side(kinds, kind, where), Side(kinds, other_kind, other_where)
    return Pairs(first, second, by, mode, reach, (told, other_told))


def _read_lonely(line, kinds):
    kind, where = _read_side(line)
    line.need("without")
    other_kind, other_where = _read_side(line)
    by = _read_on(line)
    line.need("for")
    reach = line.integer()
    line.need("tell")
    told = line.names()
    line.finish()
    first, second = Side(kinds, kind, where), Side(kinds, other_kind, other_where)
    return Lonely(first, second, by, reach, told)


def _read_side(line):
    """Return a kind and its dict from fields to intervals; whether they are right shows later."""
    kind = line.name()
    where = {}
    if line.skip("where"):
        while is_free_name(line.next_word()):
            if line.next_word() in where:
                raise BadText(line.number, line.place)
            field = line.name()
            where[field] = _read_set(line)
    return kind, where


def _read_set(line):
    word = line.next_word()
    pairs = None if word is None else intervals_of(word)
    if pairs is None:
        raise BadText(line.number, line.place)
    line.need(word)
    return pairs


def _read_by(line):
    return line.names() if line.skip("by") else []


def _read_on(line):
    found = []
    if line.skip("on"):
        word = line.next_word()
        while word is not None and names_of_pair(word) is not None:
            found.append(names_of_pair(word))
            line.need(word)
            word = line.next_word()
    return found


def _read_worths(line):
    """Return the worths that are all that is left of a line."""
    found = []
    if line.skip("worths"):
        word = line.next_word()
        while word is not None and worth_of(word) is not None:
            found.append(worth_of(word))
            line.need(word)
            word = line.next_word()
    line.finish()
    return found


def query_words(query):
    """Return the words of a query from its shape on."""
    word = query.form()[0]
    if isinstance(query, Each):
        return [word, *_side_words(query.side), "tell", *query.told]
    if isinstance(query, Pairs):
        told = ["tell", *query.told[0], "/", *query.told[1]]
        return [word, *_two_sides(query, "with"), query.mode, str(query.reach), *told]
    if isinstance(query, Lonely):
        return [word, *_two_sides(query, "without"), "for", str(query.reach), "tell", *query.told]
    begin = [word, *_side_words(query.side), *_part("by", query.by)]
    worths = _part("worths", [worth_word(worth) for worth in query.worths])
    if isinstance(query, Windows):
        return [*begin, "length", str(query.length), "step", str(query.step), *worths]
    if isinstance(query, Blocks):
        return [*begin, "size", str(query.size), *worths]
    return [*begin, "gap", str(query.gap), *worths]


def _two_sides(query, between):
    on = _part("on", [f"{one}:{other}" for one, other in query.by])
    return [*_side_words(query.first), between, *_side_words(query.second), *on]


def _side_words(side):
    where = []
    for field, one in zip(side.fields, side.sets):
        if one != EVERYTHING:
            where.extend([field, set_word(one)])
    return [side.kind, *_part("where", where)]


def _part(word, rest):
    """Return a part of a line, nothing if nothing stands behind its word."""
    return [word, *rest] if rest else []
