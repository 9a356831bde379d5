"""Books of kinds and queries as texts."""

from streamsure.booklines import BookLine, query_words, read_query
from streamsure.errors import BadText
from streamsure.queries import Kinds


class Book:
    """Kinds, and queries with their names."""

    def __init__(self, kinds, queries):
        self.kinds = kinds
        self.queries = tuple([(name, query) for name, query in queries])

    def form(self):
        """Return a tuple that tells all that the book is."""
        kinds = tuple([(kind, self.kinds.fields[kind]) for kind in self.kinds.fields])
        return (kinds, tuple([(name, query.form()) for name, query in self.queries]))


def read_book(text):
    """Return the book that a text writes."""
    lines = [BookLine(number, line) for number, line in enumerate(text.split("\n"))] if text else []
    fields = {}
    many = 0
    while many < len(lines) and lines[many].skip("kind"):
        _read_kind(lines[many], fields)
        many += 1
    kinds = Kinds(fields)
    queries = {}
    for line in lines[many:]:
        line.need("query")
        name = _new_name(line, queries)
        queries[name] = read_query(line, kinds)
    return Book(kinds, list(queries.items()))


def _read_kind(line, fields):
    """Put the kind that is the rest of a line into the dict of fields."""
    kind = _new_name(line, fields)
    names = line.names()
    line.finish()
    fields[kind] = names


def _new_name(line, known):
    """Return the name that must stand here, none of the known ones."""
    if line.next_word() in known:
        raise BadText(line.number, line.place)
    return line.name()


def write_book(book):
    """Return the text of a book."""
    fields = book.kinds.fields
    lines = [["kind", kind, *fields[kind]] for kind in fields]
    lines.extend([["query", name, *query_words(query)] for name, query in book.queries])
    return "\n".join([" ".join(words) for words in lines])
