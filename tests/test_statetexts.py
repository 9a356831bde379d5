"""[30] Values as texts, and back; each spoilt text with the word that is told."""

import itertools
import random
import unittest

from streamsure.fallerrors import BadState
from streamsure.machines import run
from streamsure.statetexts import state_by, value_by, value_text
from tests.draws import SHAPES, draw_letters, draw_query

MANY = 3999
GREAT = 10 ** MANY + 17


class ThereAndBackTest(unittest.TestCase):
    def assert_text(self, value, text):
        self.assertEqual(value_text(value), text)
        found = value_by(text)
        self.assertEqual(found, value)
        self.assertIs(type(found), type(value))

    def test_plain_values(self):
        for value, text in (
            (0, "0"), (7, "7"), (-2, "-2"), (-10, "-10"), (1234567890, "1234567890"), ("a", "a"), ("end", "end"),
            ("abcdefghijklmnopqrstuvwxyz", "abcdefghijklmnopqrstuvwxyz"), (None, "-"), ((), "()"),
        ):
            self.assert_text(value, text)

    def test_tuples(self):
        for value, text in (
            ((1, ("a", -2), (), None), "(1 (a -2) () -)"), ((0,), "(0)"), (((),), "(())"), (((), ()), "(() ())"),
            ((None, None), "(- -)"), ((((3,),),), "(((3)))"), ((("a",), "a", -1, (-1,)), "((a) a -1 (-1))"),
        ):
            self.assert_text(value, text)

    def test_integers_of_very_many_figures(self):
        figures = "1" + "0" * (MANY - 2) + "17"
        self.assert_text(GREAT, figures)
        self.assert_text(-GREAT, "-" + figures)
        self.assert_text((GREAT, (-GREAT,)), f"({figures} (-{figures}))")
        self.assert_text(10 ** 59, "1" + "0" * 59)
        self.assert_text(10 ** 60, "1" + "0" * 60)
        self.assert_text(10 ** 60 - 1, "9" * 60)
        self.assert_text(-10 ** 120, "-1" + "0" * 120)

    def test_the_longest_integers(self):
        self.assert_text(10 ** 4000 - 1, "9" * 4000)
        self.assert_text(1 - 10 ** 4000, "-" + "9" * 4000)
        self.assert_text(10 ** 3999, "1" + "0" * 3999)
        self.assert_text(("a", (-10 ** 3999,), 10 ** 3999), f"(a (-1{'0' * 3999}) 1{'0' * 3999})")

    def test_longer_integers_are_written_nevertheless(self):
        """No point says that value_text raises an error, so it writes what goes beyond the limit."""
        figures = "1" + "0" * (MANY - 2) + "17" + "0" * 400
        self.assertEqual(value_text(GREAT * 10 ** 400), figures)
        self.assertEqual(value_text((-10 ** 4000, "a")), f"(-1{'0' * 4000} a)")

    def test_words_of_letters_may_be_longer(self):
        self.assert_text("a" * 5000, "a" * 5000)
        self.assert_text(("z" * 4001, 1), f"({'z' * 4001} 1)")

    def test_states_are_read_with_integers_of_any_length(self):
        for value in (10 ** 4000, -10 ** 4000, (1, ("a", -10 ** 5000), (), None), 10 ** 4000 - 1, (), None, "a"):
            self.assertEqual(state_by(value_text(value)), value)
        for text, word in (("0" + "9" * 4001, 0), (f"(1 {'9' * 5000}", 3), (f"{'9' * 5000} A", 1), (None, 0)):
            with self.assertRaises(BadState) as caught:
                state_by(text)
            self.assertEqual(caught.exception.word, word)

    def test_numbers_around_lengths_of_figures(self):
        draw = random.Random(30)
        for many in (1, 2, 59, 60, 61, 119, 120, 121, 500):
            for _ in range(20):
                figures = draw.choice("123456789") + "".join(draw.choice("0019") for _ in range(many - 1))
                self.assert_text(int(figures), figures)
                self.assert_text(-int(figures), "-" + figures)

    def test_deep_tuples(self):
        value, many = 5, 20000
        for _ in range(many):
            value = (value,)
        text = value_text(value)
        self.assertEqual(text, "(" * many + "5" + ")" * many)
        found = value_by(text)
        for _ in range(many):
            self.assertEqual(len(found), 1)
            found = found[0]
        self.assertEqual(found, 5)
        # taken apart step by step: Python itself goes down by calls
        while isinstance(value, tuple):
            value = value[0]

    def test_drawn_values(self):
        draw = random.Random(31)
        texts = {}
        for _ in range(500):
            value = self.draw_value(draw, 4)
            text = value_text(value)
            self.assertEqual(value_by(text), value)
            self.assertEqual(texts.setdefault(text, value), value)

    def draw_value(self, draw, depth):
        if depth and draw.random() < 0.6:
            return tuple(self.draw_value(draw, depth - 1) for _ in range(draw.randint(0, 3)))
        return draw.choice((0, -1, 10, None, "a", "zz", (), -305))

    def test_all_states_that_letters_lead_to(self):
        draw = random.Random(32)
        for number in range(400):
            query = draw_query(draw, SHAPES[number % len(SHAPES)])
            letters = draw_letters(draw, 9, 6, 0.02)
            for many in range(len(letters) + 1):
                state = run(query, letters[:many])[0]
                self.assertEqual(value_by(value_text(state)), state)


class SpoiltTest(unittest.TestCase):
    def assert_bad(self, text, word):
        with self.assertRaises(BadState) as caught:
            value_by(text)
        self.assertEqual(caught.exception.word, word, text)

    def test_words_that_are_none(self):
        for word in ("00", "01", "-0", "-01", "+1", "--1", "--", "A", "aB", "a1", "1a", "-a", "1-", "_", "\n", "1\n",
                     "\t", "1.0", "1,2", "e3e", "\u00e9", "\u0663", "\u00b2", "[", "0x1", "'a'", "None1"):
            self.assert_bad(word, 0)
            self.assert_bad(f"(1 {word})", 2)
            self.assert_bad(f"(1 (a {word}) () -)", 4)
            self.assert_bad(f"({word} {word}", 1)

    def test_integers_of_too_many_figures(self):
        for many in (4001, 4002, 4060, 4300, 4301, 5000, 20000):
            for figures in ("9" * many, "1" + "0" * (many - 1)):
                for word in (figures, "-" + figures):
                    self.assert_bad(word, 0)
                    self.assert_bad(f"(1 {word})", 2)
                    self.assert_bad(f"(1 {word}", 2)
                    self.assert_bad(f"(1 (a {word}) () -)", 4)
                    self.assert_bad(f"{word} {word}", 0)
                    self.assert_bad(f"1 2 {word}", 2)

    def test_integers_of_too_many_figures_among_other_wrong_words(self):
        word = "9" * 4001
        self.assert_bad(f") {word}", 0)
        self.assert_bad(f"{word} )", 0)
        self.assert_bad(f"A {word}", 0)
        self.assert_bad(f"(a {word} A)", 2)
        self.assert_bad(f" {word}", 0)
        self.assert_bad(f"({word}))", 1)

    def test_needless_figures_are_no_matter_of_length(self):
        self.assert_bad("0" + "9" * 3999, 0)
        self.assert_bad("0" * 4001, 0)
        self.assert_bad("-0" + "9" * 3999, 0)
        self.assert_bad("9" * 3999 + "a", 0)

    def test_as_long_as_may_be_beside_what_is_no_value(self):
        word = "9" * 4000
        self.assert_bad(f"({word}", 2)
        self.assert_bad(f"{word} -{word}", 2)
        self.assert_bad(f"-{word} ", 1)
        self.assert_bad(f"{word} A", 1)

    def test_the_first_wrong_word_counts(self):
        self.assert_bad("A B", 0)
        self.assert_bad("a B", 1)
        self.assert_bad("(a  B)", 2)
        self.assert_bad(") A", 0)
        self.assert_bad("A )", 0)
        self.assert_bad("() ) A", 2)
        self.assert_bad("(a))(B", 3)

    def test_closing_brackets_too_many(self):
        self.assert_bad(")", 0)
        self.assert_bad("())", 2)
        self.assert_bad("1)", 1)
        self.assert_bad("(1 2) 3)", 5)
        self.assert_bad(")(", 0)
        self.assert_bad("())(", 2)

    def test_how_many_words_there_are_when_none_is_wrong(self):
        for text, many in (
            ("", 0), (" ", 0), ("(", 1), ("(1", 2), ("((1)", 4), ("1 2", 2), ("() ()", 4), ("()()", 4), ("1()", 3),
            (" 1", 1), ("1 ", 1), (" ()", 2), ("() ", 2), ("(1  2)", 4), ("( 1)", 3), ("(1 )", 3), ("( )", 2),
            ("(1(2))", 6), ("((1)2)", 6), ("(1 (2 ) 3)", 7), ("- -", 2), ("a b c", 3), ("(()", 3), ("  ", 0),
            ("(1 2)  ", 4), ("((1 2) ( 3))", 9),
        ):
            self.assert_bad(text, many)

    def test_what_is_no_string(self):
        for thing in (None, 0, 7, True, (), (1,), [], ["1"], b"1", {}, 1.5):
            self.assert_bad(thing, 0)

    def test_drawn_texts(self):
        """A text of a few signs is one of a value, or an error, just as the words say."""
        for many in range(1, 6):
            for signs in itertools.product("()1 -a0", repeat=many):
                text = "".join(signs)
                word = self.wrong_word(text)
                if word is None:
                    self.assertEqual(value_text(value_by(text)), text)
                else:
                    self.assert_bad(text, word)

    def wrong_word(self, text):
        """The number that is told of a text, by a plain count; None for a text of a value."""
        words, depth = text.replace("(", " ( ").replace(")", " ) ").split(), 0
        for number, word in enumerate(words):
            depth += {"(": 1, ")": -1}.get(word, 0)
            plain = word in ("(", ")", "-", "0") or set(word) == {"a"}
            whole = word.removeprefix("-")
            plain = plain or (set(whole) <= set("10") and whole.startswith("1"))
            if depth < 0 or not plain:
                return number
        depth, values = 0, 0
        for word in words:
            depth -= word == ")"
            values += depth == 0 and word != ")"
            depth += word == "("
        right = "".join(f" {word}" for word in words).replace("( ", "(").replace(" )", ")")[1:]
        return None if depth == 0 and values == 1 and right == text else len(words)


if __name__ == "__main__":
    unittest.main()
