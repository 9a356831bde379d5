"""[40] Scripts: a book and commands, their errors, and the lines that come."""

import random
import re
import unittest

from streamsure.comparing import are_same
from streamsure.errors import BadQuery, BadText
from streamsure.language import Book, read_book, write_book
from streamsure.machines import run
from streamsure.meaning import stream_of
from streamsure.shell import Script, read_script, run_script
from streamsure.statetexts import value_text
from streamsure.waiting import waiting_for
from tests import plain
from tests.draws import KINDS, SHAPES, draw_letters, draw_query

BOOK = "kind a k v\nkind c\nquery q windows a length 5 step 5 worths count\nquery r each c tell time"
INTEGER = re.compile("0|-?[1-9][0-9]*")


def letter_line(letter):
    if letter[0] == "event":
        return " ".join(map(str, ("event", *letter[1])))
    return " ".join(map(str, letter))


def draw_script(draw, number):
    """A book, and rows of letters and questions."""
    queries = [draw_query(draw, SHAPES[(number + more) % len(SHAPES)]) for more in range(draw.randint(0, 4))]
    book = Book(KINDS, [(name, query) for name, query in zip(("q", "told", "end", "go"), queries)])
    rows = []
    for letter in draw_letters(draw, draw.randint(0, 12), 6, 0.05):
        rows.append(letter)
        while queries and draw.random() < 0.5:
            names = [draw.choice(book.queries)[0] for _ in range(2)]
            rows.append(draw.choice((("told", names[0]), ("waits", names[0]), ("same", *names))))
    return book, rows


def script_text(book, rows):
    lines = [letter_line(row) if row[0] in ("event", "mark", "end") else " ".join(row) for row in rows]
    return "\n".join([write_book(book), "go", *lines])


def expected_lines(book, rows):
    """The lines that come, from what the machines and the plain meanings tell."""
    queries, letters, found = dict(book.queries), [], []
    for row in rows:
        if row[0] in ("event", "mark", "end"):
            letters.append(row)
            for name, query in book.queries:
                found += [f"{name} {value_text(answer)}" for answer in run(query, letters)[1][-1]]
        elif row[0] == "told":
            found.append(f"told {row[1]} {sum(map(len, run(queries[row[1]], letters)[1]))}")
        elif row[0] == "waits":
            stream, mark, over = stream_of(letters)
            if not over:
                waiting = [answer for answer, ending in waiting_for(queries[row[1]], stream, mark)]
                found += [f"waits {row[1]} {value_text(answer)}" for answer in waiting]
        else:
            found.append("same" if are_same(queries[row[1]], queries[row[2]]) else "unlike")
    return found


class RunTest(unittest.TestCase):
    def test_the_example(self):
        text = "kind a v\nquery q windows a length 5 step 5 worths count\ngo\n"
        text += "event a 1 0 7\nwaits q\nmark 5\ntold q\nsame q q"
        self.assertEqual(run_script(text), ["waits q (() 0 5 1)", "q (() 0 5 1)", "told q 1", "same"])

    def test_what_is_read(self):
        script = read_script(f"{BOOK}\ngo\nevent a 1 -2 7 -8\nmark 5\nend\ntold q\nwaits r\nsame q r")
        self.assertIs(type(script), Script)
        self.assertIs(type(script.book), Book)
        self.assertEqual(script.book.form(), read_book(BOOK).form())
        self.assertIs(type(script.commands), tuple)
        self.assertEqual(len(script.commands), 6)
        self.assertEqual(read_script(f"{BOOK}\ngo").commands, ())

    def test_a_script_that_is_made(self):
        book = read_book(BOOK)
        script = Script(book, ())
        self.assertIs(script.book, book)
        self.assertEqual(script.commands, ())

    def test_drawn_scripts(self):
        draw = random.Random(40)
        words = {}
        for number in range(400):
            book, rows = draw_script(draw, number)
            lines = run_script(script_text(book, rows))
            self.assertIs(type(lines), list)
            self.assertEqual(lines, expected_lines(book, rows), script_text(book, rows))
            for line in lines:
                words[line.split(" ")[0]] = words.get(line.split(" ")[0], 0) + 1
        for word in ("q", "told", "waits", "same", "unlike"):
            self.assertGreater(words[word], 20, words)

    def test_what_is_told_is_the_meaning_behind_an_end(self):
        draw = random.Random(41)
        for number in range(100):
            book, rows = draw_script(draw, number)
            letters = [row for row in rows if row[0] in ("event", "mark")]
            lines = run_script(script_text(book, [*letters, ("end",)]))
            for name, query in book.queries:
                answers = [value_text(answer) for answer in plain.meaning(query, plain.stream(letters)[0])]
                found = [line.partition(" ")[2] for line in lines if line.startswith(f"{name} ")]
                self.assertEqual(sorted(found), sorted(answers))

    def test_letters_go_to_all_queries_in_the_books_order(self):
        text = "kind a v\nkind b\nquery z each a tell v\nquery y each b tell\nquery x each a tell v v\ngo\n"
        text += "event a 3 0 7\nevent b 3 0\nmark 3\nevent a 2 0 1\nevent a 3 0 7\ntold z\ntold y\ntold x\nend\nevent a 9 9 9"
        self.assertEqual(run_script(text), ["z (7)", "x (7 7)", "y ()", "told z 1", "told y 1", "told x 1"])

    def test_answers_ascend(self):
        text = "kind a v\nquery q windows a length 5 step 5 worths sum:v\ngo\nevent a 11 0 2\nevent a 1 0 9\nevent a 6 0 -5\n"
        lines = ["(() 0 5 9)", "(() 5 10 -5)", "(() 10 15 2)"]
        self.assertEqual(run_script(f"{text}waits q\nend"), [f"waits q {line}" for line in lines] + [f"q {line}" for line in lines])

    def test_waits_tells_unlike_answers_and_none_behind_an_end(self):
        text = "kind a v\nkind b\nquery q lonely a without b for 3 tell v\ngo\nwaits q\n"
        text += "event a 1 0 2\nevent a 2 0 2\nevent a 2 1 1\nwaits q\nmark 5\nwaits q\nmark 6\nwaits q\n"
        self.assertEqual(run_script(text + "event a 7 0 1\nend\nwaits q"), [
            "waits q (1)", "waits q (2)", "q (2)", "waits q (1)", "waits q (2)", "q (1)", "q (2)", "q (1)"])
        self.assertEqual(run_script(text + "event a 7 0 1\nwaits q\nend")[-2:], ["waits q (1)", "q (1)"])

    def test_told_counts_answers_not_letters(self):
        text = "kind a\nquery q sessions a gap 1\ngo\nevent a 1 0\nevent a 5 0\ntold q\nmark 9\ntold q\nend\ntold q"
        self.assertEqual(run_script(text), ["told q 0", "q (() 1 1)", "q (() 5 5)", "told q 2", "told q 2"])

    def test_same_and_unlike(self):
        text = "kind a v\nquery q each a where v 3 tell v\nquery r each a where v 3..3 tell v\nquery s each a tell v\ngo\n"
        self.assertEqual(run_script(text + "same q r\nsame r q\nsame q s\nsame s s\nend\nsame q r"),
                         ["same", "same", "unlike", "same", "same"])

    def test_books_without_anything(self):
        for text in ("go", "\ngo"):
            self.assertEqual(run_script(f"{text}\nmark 4\nend\nmark 0"), [])
            self.assertEqual(run_script(text), [])

    def test_words_of_commands_may_be_names(self):
        text = "kind event same\nquery go each event tell same\nquery waits each event tell\ngo\n"
        text += "event event 4 0 9\ntold go\nsame go waits"
        self.assertEqual(run_script(text), ["go (9)", "waits ()", "told go 1", "unlike"])

    def test_great_numbers(self):
        figures = "9" * 99
        text = f"kind a v\nquery q each a tell v time id\ngo\nevent a {figures} -{figures} {figures}\nmark {figures}"
        self.assertEqual(run_script(text), [f"q ({figures} {figures} -{figures})"])


class ErrorCase(unittest.TestCase):
    def assert_bad(self, text, line, word):
        for read in (read_script, run_script):
            with self.assertRaises(BadText) as caught:
                read(text)
            self.assertEqual((caught.exception.line, caught.exception.word), (line, word), text)


class BookErrorTest(ErrorCase):
    def test_lines_without_go_are_a_book_read_first(self):
        self.assert_bad(BOOK, 4, 0)
        self.assert_bad("kind a", 1, 0)
        self.assert_bad("kind a\nquery q each a tel", 1, 4)
        self.assert_bad("kind a\n", 1, 0)
        self.assert_bad("go on", 0, 0)
        self.assert_bad("kind a\nGo", 1, 0)
        self.assert_bad("kind a\n go", 1, 0)
        self.assert_bad("kind a\ngo ", 1, 0)
        self.assert_bad("kind a\nmark 4\nend", 1, 0)

    def test_the_empty_text_has_one_line(self):
        self.assert_bad("", 1, 0)

    def test_the_book_is_read_ahead_of_the_commands(self):
        self.assert_bad("kind a\nquery q each b\ngo\nmark -1", 1, 4)
        self.assert_bad("kind\ngo\nx", 0, 1)
        self.assert_bad("\n\ngo", 0, 0)
        self.assert_bad("kind a\n\ngo", 1, 0)
        for text in ("kind a\nquery q each b tell\ngo\nx", "kind a\nquery q each b tell", "kind a v v\ngo"):
            for read in (read_script, run_script):
                self.assertRaises(BadQuery, read, text)

    def test_the_first_go_counts(self):
        self.assert_bad("go\ngo", 1, 0)
        self.assert_bad(f"{BOOK}\ngo\nmark 4\ngo\nmark 5", 6, 0)
        self.assert_bad("go\nkind a", 1, 0)
        self.assert_bad("go\nquery q each a tell", 1, 0)

    def test_empty_lines_and_a_line_feed_at_the_end(self):
        self.assert_bad("go\n", 1, 0)
        self.assert_bad(f"{BOOK}\ngo\n", 5, 0)
        self.assert_bad(f"{BOOK}\ngo\nmark 4\n", 6, 0)
        self.assert_bad(f"{BOOK}\ngo\n\nmark 4", 5, 0)
        self.assert_bad(f"{BOOK}\n\ngo\nmark 4", 4, 0)


class CommandErrorTest(ErrorCase):
    def wrong_word(self, text):
        """The number of the first word of a line that can't stand there, by plain rules; None if all can."""
        words = text.split(" ")
        kinds, names = {"a": 2, "c": 0}, ("q", "r")
        if words[0] == "event":
            rules = [lambda word: word in kinds, self.is_natural, self.is_integer]
            many = kinds.get(words[1], 0) if len(words) > 1 else 0
            rules += [self.is_integer] * many
        else:
            rules = {"mark": [self.is_natural], "end": [], "told": [names.__contains__], "waits": [names.__contains__],
                     "same": [names.__contains__] * 2}.get(words[0])
        if rules is None:
            return 0
        for place, rule in enumerate(rules, 1):
            if place >= len(words) or not rule(words[place]):
                return place
        return len(rules) + 1 if len(words) > len(rules) + 1 else None

    def is_integer(self, word):
        return INTEGER.fullmatch(word) is not None

    def is_natural(self, word):
        return self.is_integer(word) and int(word) >= 0

    def assert_line(self, line):
        word = self.wrong_word(line)
        for behind in ("", "\nmark 3\nend\nevent c 1 2\nx"):
            text = f"{BOOK}\ngo\nmark 2\n{line}{behind}"
            if word is not None:
                self.assert_bad(text, 6, word)
            elif behind:
                self.assert_bad(text, 10, 0)
            else:
                self.assertEqual(len(read_script(text).commands), 2)

    def test_every_place_of_every_line(self):
        others = ("", "a", "b", "c", "q", "r", "x", "0", "1", "-1", "-0", "00", "01", "+1", "1.", "A", "go", "end", "mark",
                  "event", "time", "-", "--1", "\t", "1\t", "kind", "query", "\u0663", "a:b", "()")
        for line in ("event a 1 2 3 4", "event a 0 -2 -3 0", "event c 1 2", "mark 0", "mark 17", "end", "told q", "told r",
                     "waits q", "same q r", "same r r"):
            words = line.split(" ")
            self.assertIsNone(self.wrong_word(line))
            self.assert_line(line)
            for place in range(len(words)):
                self.assert_line(" ".join(words[:place]))
                self.assert_line(" ".join(words[:place] + words[place + 1:]))
                for word in others:
                    self.assert_line(" ".join([*words[:place], word, *words[place + 1:]]))
                    self.assert_line(" ".join([*words[:place], word, *words[place:]]))
            for word in others:
                self.assert_line(f"{line} {word}")
            self.assert_line(f"{line} x y")

    def test_plain_ones(self):
        for line, word in (
            ("event", 1), ("event b 1 2", 1), ("event a", 2), ("event a -1 2 3 4", 2), ("event a 1", 3), ("event a 1 2 3", 5),
            ("event a 1 2 3 4 5", 6), ("event c 1 2 3", 4), ("mark", 1), ("mark -1", 1), ("mark 1 2", 2), ("end 1", 1),
            ("told", 1), ("told x", 1), ("told q r", 2), ("waits x", 1), ("waits q q", 2), ("same", 1), ("same q", 2),
            ("same x q", 1), ("same q x", 2), ("same q r q", 3), ("", 0), (" mark 4", 0), ("mark  4", 1), ("mark 4 ", 2),
            ("Mark 4", 0), ("end ", 1), ("told a", 1),
        ):
            self.assertEqual(self.wrong_word(line), word)
            self.assert_line(line)

    def test_the_first_wrong_line_counts(self):
        self.assert_bad(f"{BOOK}\ngo\nmark 4\nmark\nx\nmark", 6, 1)

    def test_nothing_is_run_ahead_of_an_error(self):
        self.assert_bad("kind a v\nquery q each a tell v\ngo\nevent a 1 2 3\ntold q\nx", 5, 0)


if __name__ == "__main__":
    unittest.main()
