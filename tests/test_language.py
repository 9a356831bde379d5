"""[21], [22] Books as texts: every line, every place of it, and what is wrong with it. [1]: the example."""

import random
import re
import unittest

from streamsure.errors import BadQuery, BadText
from streamsure.language import Book, read_book, write_book
from streamsure.machines import run
from streamsure.queries import Blocks, Each, Kinds, Lonely, Pairs, Sessions, Side, Windows
from tests.draws import KINDS, SHAPES, draw_query

WORDS = (
    "kind query each windows blocks sessions pairs lonely where by length step worths size gap with without on "
    "near behind for tell"
).split()
HEAD = "kind a k v w\nkind b k x\nkind c\n"

# one line of each shape for each part that may be left out, empty or full
LINES = """
each a tell
each a tell v
each a where tell v time id v
each a where k 3 v 1..2,7.. w .. tell time
windows a length 4 step 2
windows a where by length 4 step 2 worths
windows a where k -5 by v k length 40 step 2 worths count atleast:2 sum:w least:w greatest:w unlike:w first last
blocks a size 3
blocks a where by size 3 worths
blocks a where w - by v k size 3 worths count sum:w least:w greatest:w unlike:w
sessions a gap 3
sessions a where by gap 3 worths
sessions a where v ..3 by k gap 3 worths count sum:w least:w greatest:w first last
pairs a with b near 0 tell /
pairs a where with b where on near 0 tell v /
pairs a where k 3 with b where x 4 k 0.. on k:k v:x near 10 tell v time / x id
pairs a with c behind 3 tell / time
pairs a with b on k:x behind 3 tell id / id
lonely a without b for 3 tell
lonely a where without b where on for 3 tell v
lonely a where k 3 without b where x 4 on k:k v:x for 10 tell v time id
""".strip().split("\n")


def is_name(word):
    return re.fullmatch("[a-z]{1,12}", word) is not None and word not in WORDS


def is_integer(word):
    return re.fullmatch("0|-?[1-9][0-9]*", word) is not None


def is_set(word):
    end = "(0|-?[1-9][0-9]*)"
    interval = f"({end}|{end}?\\.\\.{end}?)"
    return word == "-" or re.fullmatch(f"{interval}(,{interval})*", word) is not None


def is_pair(word):
    return word.count(":") == 1 and all(is_name(part) for part in word.split(":"))


def is_worth(word):
    head, _, rest = word.partition(":")
    if head in ("count", "first", "last"):
        return word == head
    if head == "atleast":
        return word != head and is_integer(rest)
    return head in ("sum", "least", "greatest", "unlike") and is_name(rest)


def literal(*words):
    return lambda word: word in words


def side_moves(begin, behind):
    """Moves from a place where a side begins to those that lead on behind it."""
    return {
        begin: [(is_name, begin + 1)],
        begin + 1: [(literal("where"), begin + 2), *behind],
        begin + 2: [("field", begin + 3), *behind],
        begin + 3: [(is_set, begin + 2)],
    }


BY = [(literal("by"), 4)]
ON = [(literal("on"), 8)]
WORTHS = {20: [(literal("worths"), 21)], 21: [(is_worth, 21)]}
MOVES = {
    "each": {**side_moves(0, [(literal("tell"), 30)])},
    "windows": {
        **side_moves(0, [*BY, (literal("length"), 10)]), 4: [(is_name, 4), (literal("length"), 10)],
        10: [(is_integer, 11)], 11: [(literal("step"), 12)], 12: [(is_integer, 20)], **WORTHS,
    },
    "blocks": {
        **side_moves(0, [*BY, (literal("size"), 10)]), 4: [(is_name, 4), (literal("size"), 10)],
        10: [(is_integer, 20)], **WORTHS,
    },
    "sessions": {
        **side_moves(0, [*BY, (literal("gap"), 10)]), 4: [(is_name, 4), (literal("gap"), 10)],
        10: [(is_integer, 20)], **WORTHS,
    },
    "pairs": {
        **side_moves(0, [(literal("with"), 4)]), **side_moves(4, [*ON, (literal("near", "behind"), 10)]),
        8: [(is_pair, 8), (literal("near", "behind"), 10)], 10: [(is_integer, 11)],
        11: [(literal("tell"), 12)], 12: [(is_name, 12), (literal("/"), 30)],
    },
    "lonely": {
        **side_moves(0, [(literal("without"), 4)]), **side_moves(4, [*ON, (literal("for"), 10)]),
        8: [(is_pair, 8), (literal("for"), 10)], 10: [(is_integer, 11)], 11: [(literal("tell"), 30)],
    },
}
for moves in MOVES.values():
    moves[30] = [(is_name, 30)]
LAST = {20, 21, 30}


def first_wrong(line):
    """The first word of a query's line that cannot stand there, None if the line can be read."""
    words = line.split(" ")
    for place, can_stand in enumerate((literal("query"), is_name, literal(*MOVES))):
        if place == len(words) or not can_stand(words[place]):
            return place
    moves, at, fields = MOVES[words[2]], 0, set()
    for place, word in enumerate(words[3:], 3):
        for can_stand, then in moves[at]:
            if can_stand == "field":
                if is_name(word) and word not in fields:
                    fields.add(word)
                    at = then
                    break
            elif can_stand(word):
                fields = fields if then in (2, 6) and at in (3, 7) else set()
                at = then
                break
        else:
            return place
    return None if at in LAST else len(words)


class LanguageCase(unittest.TestCase):
    def assert_text(self, line, word, text):
        with self.assertRaises(BadText, msg=text) as caught:
            read_book(text)
        self.assertEqual((caught.exception.line, caught.exception.word), (line, word), text)

    def assert_query(self, word, text):
        with self.assertRaises(BadQuery, msg=text) as caught:
            read_book(text)
        self.assertEqual(caught.exception.word, word, text)


class ReadTest(LanguageCase):
    def query(self, words):
        (name, query), = read_book(HEAD + "query q " + words).queries
        self.assertEqual(name, "q")
        return query

    def test_each_line_as_it_stands(self):
        a, b, c = (Side(KINDS, kind, {}) for kind in "abc")
        least = [("sum", "w"), ("least", "w"), ("greatest", "w")]
        narrow = Side(KINDS, "a", {"k": [(3, 3)], "v": [(1, 2), (7, None)]})
        first = Side(KINDS, "a", {"k": [(3, 3)]})
        second = Side(KINDS, "b", {"x": [(4, 4)]})
        both = [("k", "k"), ("v", "x")]
        expected = [
            Each(a, []), Each(a, ["v"]), Each(a, ["v", "time", "id", "v"]), Each(narrow, ["time"]),
            Windows(a, [], 4, 2, []), Windows(a, [], 4, 2, []),
            Windows(Side(KINDS, "a", {"k": [(-5, -5)]}), ["v", "k"], 40, 2,
                    [("count",), ("atleast", 2), *least, ("unlike", "w"), ("first",), ("last",)]),
            Blocks(a, [], 3, []), Blocks(a, [], 3, []),
            Blocks(Side(KINDS, "a", {"w": []}), ["v", "k"], 3, [("count",), *least, ("unlike", "w")]),
            Sessions(a, [], 3, []), Sessions(a, [], 3, []),
            Sessions(Side(KINDS, "a", {"v": [(None, 3)]}), ["k"], 3, [("count",), *least, ("first",), ("last",)]),
            Pairs(a, b, [], "near", 0, ([], [])), Pairs(a, b, [], "near", 0, (["v"], [])),
            Pairs(first, Side(KINDS, "b", {"x": [(4, 4)], "k": [(0, None)]}), both, "near", 10,
                  (["v", "time"], ["x", "id"])),
            Pairs(a, c, [], "behind", 3, ([], ["time"])), Pairs(a, b, [("k", "x")], "behind", 3, (["id"], ["id"])),
            Lonely(a, b, [], 3, []), Lonely(a, b, [], 3, ["v"]),
            Lonely(first, second, both, 10, ["v", "time", "id"]),
        ]
        self.assertEqual(len(expected), len(LINES))
        for line, query in zip(LINES, expected):
            self.assertEqual(self.query(line).form(), query.form(), line)
            self.assertIs(type(self.query(line)), type(query))
            self.assertIsNone(first_wrong("query q " + line))

    def test_attributes(self):
        book = read_book("kind b k\nkind a\nquery z each b tell k\nquery a each a tell")
        self.assertEqual(list(book.kinds.fields.items()), [("a", ()), ("b", ("k",))])
        self.assertIs(type(book.queries), tuple)
        self.assertEqual([name for name, query in book.queries], ["z", "a"])
        self.assertTrue(all(type(pair) is tuple for pair in book.queries))

    def test_the_empty_text(self):
        book = read_book("")
        self.assertEqual((book.kinds.fields, book.queries), ({}, ()))
        self.assertEqual(book.form(), Book(Kinds({}), []).form())

    def test_kinds_alone(self):
        self.assertEqual(read_book("kind a").kinds.fields, {"a": ()})
        self.assertEqual(read_book("kind a\nkind b x y").kinds.fields, {"a": (), "b": ("x", "y")})

    def test_sets(self):
        for word, pairs in (
            ("3", [(3, 3)]), ("-3", [(-3, -3)]), ("0", [(0, 0)]), ("3..7", [(3, 7)]), ("-7..-3", [(-7, -3)]),
            ("..7", [(None, 7)]), ("3..", [(3, None)]), ("..", [(None, None)]), ("-", []), ("5,3", [(3, 3), (5, 5)]),
            ("1,2,3..4", [(1, 4)]), ("..1,3,5..", [(None, 1), (3, 3), (5, None)]), ("..-1,-5..3", [(None, 3)]),
            ("7..3", []), ("7..3,4", [(4, 4)]), ("9" * 100, [(int("9" * 100),) * 2]),
        ):
            query = self.query(f"each a where v {word} tell")
            self.assertEqual(query.form(), Each(Side(KINDS, "a", {"v": pairs}), []).form(), word)
        for word in ("", "+3", "03", "-0", "-03", "00", "3.7", "3...7", "3..7..9", ",", "3,", ",3", "3,,4", "--3", "-,3",
                     "3,-", "3..x", "x", ".", "...", "3..-0", "03..4", "3;4", "1e3", "3..+7", "\u0663", "\u00b2"):
            self.assert_text(3, 6, f"{HEAD}query q each a where v {word} tell")

    def test_integers(self):
        for shape, place in (("windows a length N step 1", 5), ("windows a length 9 step N", 7), ("blocks a size N", 5),
                             ("sessions a gap N", 5), ("pairs a with b near N tell /", 7),
                             ("pairs a with b behind N tell /", 7), ("lonely a without b for N tell", 7)):
            for word in ("", "+3", "03", "-0", "3.0", "x", "-", "--3", "1,2", "3..4", "tell", "\u0663"):
                self.assert_text(3, place, f"{HEAD}query q {shape.replace('N', word)}")
            self.assertGreater(len(self.query(shape.replace("N", "7")).form()), 2)

    def test_worths(self):
        for word in ("", "sum", "sum:", "sum:k:v", "sum:tell", "sum:3", "sum:K", "count:", "count:v", "first:", "atleast",
                     "atleast:", "atleast:v", "atleast:03", "atleast:-0", "atleast:+1", "atleast:1:2", "v", "worths", ":v",
                     "last,first", "most:v", "sum:abcdefghijklm"):
            self.assert_text(3, 9, f"{HEAD}query q windows a length 4 step 2 worths {word} count")
            self.assertFalse(is_worth(word))

    def test_names_are_no_words_of_the_language(self):
        self.assertEqual(len(WORDS), 22)
        for word in [*WORDS, "", "A", "k1", "k_v", "abcdefghijklm", "-", "3", "k:v", "\u00e4"]:
            self.assert_text(0, 1, f"kind {word} k")
            self.assert_text(0, 2, f"kind a {word} k")
            self.assert_text(3, 1, f"{HEAD}query {word} each a tell")
            self.assert_text(3, 3, f"{HEAD}query q each {word} tell")
            if word != "length":
                self.assert_text(3, 5, f"{HEAD}query q windows a by {word or ' '} step")
        for word in ("count", "sum", "abcdefghijkl", "end", "mark", "event", "go", "a"):
            text = f"kind {word} {word}\nquery {word} each {word} where {word} 3 tell {word}"
            self.assertEqual(read_book(text).queries[0][0], word)
            self.assertEqual(write_book(read_book(text)), text)

    def test_the_example_of_chapter_1(self):
        book = read_book(
            "kind sale shop price\nquery q windows sale where price 1.. by shop length 10 step 10 worths count"
            " least:price\nquery r windows sale where price 1.. by shop length 10 step 10 worths least:price")
        letters = [("event", ("sale", 3, 0, 7, 5)), ("event", ("sale", 4, 1, 7, 1)), ("event", ("sale", 3, 0, 7, 5)),
                   ("mark", 10), ("event", ("sale", 9, 2, 7, 4))]
        self.assertEqual(run(book.queries[0][1], letters)[1], ((), (), (), (((7,), 0, 10, 2, 1),), ()))
        self.assertEqual(run(book.queries[1][1], letters)[1], ((), (((7,), 0, 10, 1),), (), (), ()))


class WrongWordTest(LanguageCase):
    def assert_line(self, line):
        """The line is refused at its first wrong word, behind other lines too; or it can be read."""
        place = first_wrong(line)
        for head, number in ((HEAD, 3), (HEAD + "query other each c tell\n", 4)):
            if number == 3 and line.startswith("kind"):
                continue
            if place is None:
                try:
                    read_book(head + line)
                except BadQuery:
                    pass
            else:
                self.assert_text(number, place, head + line)

    def test_a_word_too_few(self):
        for line in LINES:
            words = ("query q " + line).split(" ")
            for many in range(1, len(words)):
                self.assert_line(" ".join(words[:many]))
                self.assert_line(" ".join(words[:many] + words[many + 1:]))

    def test_another_word_or_one_too_many(self):
        for line in LINES:
            words = ("query q " + line).split(" ")
            for place in range(len(words) + 1):
                for word in [*WORDS, "", "/", "-", "3", "-4", "zz", "k", "k:v", "k:3", "3:k", "k:by", "k:v:w", "count", "sum:v", "1..2", "K", "3,4", "time"]:
                    self.assert_line(" ".join(words[:place] + [word] + words[place:]))
                    self.assert_line(" ".join(words[:place] + [word] + words[place + 1:]))

    def test_drawn_lines(self):
        draw = random.Random(21)
        for _ in range(3000):
            words = ("query q " + draw.choice(LINES)).split(" ")
            for _ in range(draw.randint(1, 3)):
                place = draw.randint(0, len(words))
                other = draw.choice(("query q " + draw.choice(LINES)).split(" "))
                words[place:place + draw.randint(0, 2)] = [other] * draw.randint(0, 2)
            self.assert_line(" ".join(words))

    def test_kind_lines(self):
        self.assert_text(0, 1, "kind")
        self.assert_text(0, 1, "kind ")
        self.assert_text(0, 2, "kind a ")
        self.assert_text(0, 2, "kind a  k")
        self.assert_text(0, 3, "kind a k 3")
        self.assert_text(1, 2, "kind a k\nkind b where")
        self.assert_text(0, 0, " kind a k")
        self.assert_text(0, 0, "Kind a k")
        self.assert_text(0, 0, "kind\ta k")

    def test_first_words(self):
        for word in ("", "each", "book", "kinds", "Query", "a", "end"):
            self.assert_text(0, 0, f"{word} a k")
            self.assert_text(3, 0, f"{HEAD}{word} q each a tell")
        self.assert_text(3, 0, f"{HEAD}")
        self.assert_text(4, 0, f"{HEAD}query q each a tell\n")
        self.assert_text(1, 0, "kind a\n\nkind b")
        self.assert_text(0, 0, "\n")
        self.assert_text(0, 0, " ")

    def test_no_kinds_behind_a_query(self):
        self.assert_text(4, 0, f"{HEAD}query q each a tell\nkind d")

    def test_names_used_twice(self):
        self.assert_text(1, 1, "kind a k\nkind a v")
        self.assert_text(2, 1, "kind a k\nkind b v\nkind a")
        self.assert_text(4, 1, f"{HEAD}query q each a tell\nquery q each b tell")
        # a query may have the name of a kind
        self.assertEqual(read_book(f"{HEAD}query a each a tell").queries[0][0], "a")

    def test_fields_of_a_side_used_twice(self):
        self.assert_text(3, 7, f"{HEAD}query q each a where v 3 v 4 tell")
        self.assert_text(3, 9, f"{HEAD}query q each a where v 3 k 4 v .. tell")
        self.assert_text(3, 12, f"{HEAD}query q pairs a where k 3 with b where k 4 k 5 near 1 tell /")
        read_book(f"{HEAD}query q pairs a where k 3 with b where k 4 near 1 tell /")

    def test_two_blanks_and_blanks_at_the_ends(self):
        self.assert_text(3, 3, f"{HEAD}query q each  a tell")
        self.assert_text(3, 5, f"{HEAD}query q each a tell ")
        self.assert_text(3, 5, f"{HEAD}query q each a tell  v")
        self.assert_text(3, 0, f"{HEAD} query q each a tell")
        self.assert_text(3, 3, f"{HEAD}query q each a\ttell")

    def test_an_earlier_and_a_later_line(self):
        self.assert_text(3, 5, f"{HEAD}query q each a tell 3\nquery q each a tell 4")
        self.assert_text(4, 5, f"{HEAD}query p each a tell\nquery q each a tell 4\nkind")
        self.assert_text(0, 2, "kind a 3\nquery q each a tell 4")


class NoQueryTest(LanguageCase):
    def test_kinds_when_all_their_lines_are_read(self):
        self.assert_query("name", "kind a time")
        self.assert_query("name", "kind a k id")
        self.assert_query("twice", "kind a k k")
        # kinds ascending
        self.assert_query("twice", "kind b time\nkind a k k")
        self.assert_query("name", "kind b k k\nkind a time")
        # a wrong word in a later kind's line comes first, one behind all of them does not
        self.assert_text(1, 2, "kind a k k\nkind b 3")
        self.assert_text(1, 1, "kind a k k\nkind a")
        self.assert_query("twice", "kind a k k\nquery")
        self.assert_query("twice", "kind a k k\nfoo")
        self.assert_query("twice", "kind a k k\nquery q each a tell 3")

    def test_sides_and_queries_when_their_line_is_read(self):
        for word, line in (
            ("kind", "each d tell"), ("kind", "pairs a with d near 1 tell /"), ("kind", "pairs d with a near 1 tell /"),
            ("field", "each a where x 3 tell"), ("field", "each a where time 3 tell"), ("field", "each a tell x"),
            ("field", "windows a by x length 4 step 2"), ("field", "windows a by time length 4 step 2"),
            ("twice", "windows a by k k length 4 step 2"), ("length", "windows a length 0 step 0"),
            ("length", "windows a length -3 step 1"), ("step", "windows a length 3 step 4"),
            ("step", "windows a length 3 step 0"), ("worth", "windows a length 3 step 3 worths atleast:0"),
            ("field", "windows a length 3 step 3 worths sum:x"), ("key", "windows a by k length 3 step 3 worths sum:k"),
            ("size", "blocks a size 0"), ("worth", "blocks a size 1 worths first"), ("gap", "sessions a gap 0"),
            ("worth", "blocks a size 1 worths last"), ("worth", "blocks a size 1 worths atleast:1"),
            ("worth", "sessions a gap 1 worths unlike:v"), ("worth", "sessions a gap 1 worths atleast:1"),
            ("kind", "pairs a with a near 1 tell /"), ("kind", "lonely a without a for 1 tell"),
            ("field", "pairs a with b on x:k near 1 tell /"), ("field", "pairs a with b on k:v near 1 tell /"),
            ("twice", "pairs a with b on k:k k:x near 1 tell /"), ("twice", "pairs a with b on k:k v:k near 1 tell /"),
            ("reach", "pairs a with b near -1 tell /"), ("reach", "pairs a with b behind 0 tell /"),
            ("field", "pairs a with b near 1 tell x /"), ("field", "pairs a with b near 1 tell / v"),
            ("reach", "lonely a without b for 0 tell"), ("field", "lonely a without b for 1 tell x"),
            ("field", "lonely a without b on x:k for 1 tell"),
        ):
            self.assert_query(word, f"{HEAD}query q {line}")
            # the whole line is read ahead of that, later lines are not
            self.assert_query(word, f"{HEAD}query q {line}\nfoo")
            self.assert_text(3, len(line.split(" ")) + 2, f"{HEAD}query q {line} 3")
            self.assert_text(3, 0, f"{HEAD}foo\nquery q {line}")

    def test_which_side_comes_first(self):
        self.assert_query("kind", f"{HEAD}query q pairs d with b where y 3 near 1 tell /")
        self.assert_query("field", f"{HEAD}query q pairs a where y 3 with d near 1 tell /")
        self.assert_query("field", f"{HEAD}query q pairs a where y 3 with a near -1 tell x /")

    def test_no_kinds_at_all(self):
        self.assert_query("kind", "query q each a tell")


class WriteTest(LanguageCase):
    def assert_same(self, book, text):
        self.assertEqual(write_book(book), text)
        again = read_book(text)
        self.assertEqual(again.form(), book.form())
        self.assertEqual(write_book(again), text)

    def test_kinds_ascend_and_parts_with_nothing_are_left_out(self):
        head = "kind a k v w\nkind b k x\nkind c"
        for line, written in (
            ("each a where tell", "each a tell"),
            ("each a where w .. v .. k .. tell k", "each a tell k"),
            ("each a where w 3 v .. k 5..5,4 tell", "each a where k 4..5 w 3 tell"),
            ("each a where v - tell", "each a where v - tell"), ("each a where v 7..3 tell", "each a where v - tell"),
            ("each a where v ..3,4.. tell", "each a tell"),
            ("each a where v 9..,..-3,5,4,0 tell", "each a where v ..-3,0,4..5,9.. tell"),
            ("windows a where by length 4 step 2 worths", "windows a length 4 step 2"),
            ("blocks a where by size 4 worths", "blocks a size 4"), ("sessions a where by gap 4 worths", "sessions a gap 4"),
            ("pairs a where with b where on near 0 tell /", "pairs a with b near 0 tell /"),
            ("pairs a with b on k:x near 0 tell k / x x", "pairs a with b on k:x near 0 tell k / x x"),
            ("lonely a where without b where on for 3 tell", "lonely a without b for 3 tell"),
        ):
            book = read_book(f"kind c\nkind b k x\nkind a k v w\nquery z {line}\nquery c {line}")
            self.assert_same(book, f"{head}\nquery z {written}\nquery c {written}")

    def test_each_full_line_is_written_as_it_stands(self):
        for line in LINES:
            written = write_book(read_book(f"{HEAD}query q {line}"))
            self.assert_same(read_book(f"{HEAD}query q {line}"), written)
            if " where k" in line and " w .. " not in line and "x 4 k" not in line:
                self.assertEqual(written, f"{HEAD}query q {line}")

    def test_small_books(self):
        self.assert_same(Book(Kinds({}), []), "")
        self.assert_same(Book(Kinds({"b": [], "a": ["y", "x"]}), []), "kind a y x\nkind b")

    def test_drawn_books(self):
        draw = random.Random(22)
        for number in range(300):
            queries = [(name, draw_query(draw, SHAPES[number % 6])) for name in ("q", "a", "zz")[:draw.randint(0, 3)]]
            book = Book(KINDS, draw.choice((list, tuple))(queries))
            self.assertEqual(book.queries, tuple(queries))
            self.assert_same(book, write_book(book))


class FormTest(unittest.TestCase):
    def test_unlike_books_have_unlike_forms(self):
        texts = ["", "kind a", "kind b", "kind a k", "kind a v", "kind a k v", "kind a v k", "kind a\nkind b"]
        texts += [f"{HEAD}query q {line}" for line in LINES if " where tell" not in line and "where by" not in line
                  and " on near" not in line and " on for" not in line]
        texts += [f"{HEAD}query q each a tell\nquery r each a tell", f"{HEAD}query r each a tell\nquery q each a tell",
                  f"{HEAD}query r each a tell"]
        forms = [read_book(text).form() for text in texts]
        self.assertEqual(len(set(forms)), len(texts))
        self.assertEqual(forms, [read_book(text).form() for text in texts])
        self.assertTrue(all(type(form) is tuple for form in forms))

    def test_the_order_of_kinds_does_not_count(self):
        self.assertEqual(read_book("kind a\nkind b").form(), read_book("kind b\nkind a").form())

    def test_a_book_of_rows(self):
        query = Each(Side(KINDS, "a", {}), [])
        forms = {Book(KINDS, rows).form() for rows in ([("q", query)], (("q", query),), [["q", query]])}
        self.assertEqual(len(forms), 1)


if __name__ == "__main__":
    unittest.main()
