"""[31], [32] Texts that show whether they stand there wholly, torn ones, and the two places."""

import itertools
import unittest

from streamsure.fallerrors import BadPlace
from streamsure.storing import newest, torn, whole_of, whole_text, with_text

NUMBERS = (0, 1, 2, 9, 10, 11, 19, 99, 100, 110, 111)
BODIES = ("", "(2 2 ())", "end", "end 1", "1", "a", "0")
FIGURES = "7" * 4000


class WholeTest(unittest.TestCase):
    def test_three_lines(self):
        self.assertEqual(whole_text(0, "(2 2)"), "0\n(2 2)\nend 0\n")
        self.assertEqual(whole_text(12, ""), "12\n\nend 12\n")

    def test_there_and_back(self):
        for number, body in itertools.product(NUMBERS, (*BODIES, " ", "\r", "x y", "\u2028", "\x0b")):
            self.assertEqual(whole_of(whole_text(number, body)), (number, body))

    def test_numbers_of_very_many_figures(self):
        number = 0
        for begin in range(0, 4000, 40):
            number = number * 10 ** 40 + int(FIGURES[begin:begin + 40])
        self.assertEqual(whole_text(number, "a"), f"{FIGURES}\na\nend {FIGURES}\n")
        self.assertEqual(whole_of(f"{FIGURES}\na\nend {FIGURES}\n"), (number, "a"))
        self.assertIsNone(whole_of(f"7{FIGURES}\na\nend 7{FIGURES}\n"))
        self.assertEqual(whole_of(whole_text(10 ** 500, "a")), (10 ** 500, "a"))

    def test_texts_that_are_none(self):
        for text in (
            "", "\n", "0\na\nend 0", "0\na\nend 0\n\n", "0\na\n\nend 0\n", "\n0\na\nend 0\n", "0\nend 0\n",
            "0\na\nb\nend 0\n", "0\na\nend 1\n", "0\na\nend  0\n", "0\na\nend 0 \n", "0\na\nEnd 0\n", "0\na\nend0\n",
            "0\na\nend\n", "0\na\n0\n", "00\na\nend 00\n", "0\na\nend 00\n", "01\na\nend 01\n", "-1\na\nend -1\n",
            "-0\na\nend -0\n", "+1\na\nend +1\n", "\na\nend \n", "a\na\nend a\n", "1 \na\nend 1 \n", " 1\na\nend  1\n",
            "1.0\na\nend 1.0\n", "\u0663\na\nend \u0663\n", "\u00b2\na\nend \u00b2\n", "-\na\nend -\n", "0\ra\rend 0\r",
            "0\na\nend 0\n0\na\nend 0\n", "1_0\na\nend 1_0\n",
        ):
            self.assertIsNone(whole_of(text), repr(text))

    def test_any_other_value_is_none(self):
        for thing in (None, 0, True, b"0\na\nend 0\n", ["0", "a", "end 0", ""], ("0\na\nend 0\n",), {}, 1.5):
            self.assertIsNone(whole_of(thing))


class PlacesTest(unittest.TestCase):
    def test_even_numbers_are_stored_at_the_first_place(self):
        self.assertEqual(with_text(("", ""), 0, "x"), ("x", ""))
        self.assertEqual(with_text(("x", ""), 1, "y"), ("x", "y"))
        self.assertEqual(with_text(("x", "y"), 2, "z"), ("z", "y"))
        self.assertEqual(with_text(("x", "y"), 13, "z"), ("x", "z"))

    def test_the_newest(self):
        one, other, spoilt = whole_text(8, "one"), whole_text(11, "other"), "12\nx\nend 1"
        self.assertIsNone(newest(("", "")))
        self.assertIsNone(newest((spoilt, "")))
        self.assertIsNone(newest((spoilt, spoilt)))
        for places, found in (
            ((one, other), (11, "other")), ((other, one), (11, "other")), ((one, ""), (8, "one")),
            (("", other), (11, "other")), ((one, spoilt), (8, "one")), ((spoilt, other), (11, "other")),
        ):
            self.assertEqual(newest(places), found)
        self.assertIn(newest((whole_text(4, "a"), whole_text(4, "b"))), ((4, "a"), (4, "b")))
        # numbers count, not texts
        self.assertEqual(newest((whole_text(100, "a"), whole_text(99, "b"))), (100, "a"))


class TornTest(unittest.TestCase):
    def test_what_stands_there(self):
        self.assertEqual(torn("old text", "new", 0, False), "")
        self.assertEqual(torn("old text", "new", 2, False), "ne")
        self.assertEqual(torn("old text", "new", 3, False), "new")
        self.assertEqual(torn("old text", "new", 0, True), "old text")
        self.assertEqual(torn("old text", "new", 2, True), "ned text")
        self.assertEqual(torn("old text", "new", 3, True), "new")
        self.assertEqual(torn("o", "new", 2, True), "ne")
        self.assertEqual(torn("", "", 0, True), "")

    def test_cuts_that_are_none(self):
        for cut in (-1, 4, 100, None, True, False, "1", 1.0, (1,), ""):
            for is_over in (False, True):
                with self.assertRaises(BadPlace) as caught:
                    torn("old text", "new", cut, is_over)
                self.assertIs(caught.exception.place, cut)
        self.assertRaises(BadPlace, torn, "old", "", 1, True)

    def pairs(self):
        """Old and new texts: old ones that are whole have a less number, others are empty."""
        for (new_number, new_body), old_body in itertools.product(itertools.product(NUMBERS, BODIES), BODIES):
            new = whole_text(new_number, new_body)
            yield "", new
            for old_number in NUMBERS:
                if old_number < new_number:
                    yield whole_text(old_number, old_body), new

    def test_whole_exactly_if_it_is_the_new_one_or_the_old_one(self):
        for old, new in self.pairs():
            for cut in range(len(new) + 1):
                for is_over in (False, True):
                    found = torn(old, new, cut, is_over)
                    if whole_of(found) is not None:
                        self.assertIn(found, (old, new))
                        self.assertTrue(found == new or is_over)
                    else:
                        self.assertNotEqual(found, new)
                        self.assertTrue(found != old or old == "")

    def test_the_newest_of_two_places_is_the_new_one_or_what_was_ahead(self):
        for number in range(1, 13):
            new = whole_text(number, "new")
            left = whole_text(number - 1, "left")
            for old in ("", whole_text(number - 2, "old") if number > 1 else ""):
                for cut, is_over in itertools.product(range(len(new) + 1), (False, True)):
                    found = torn(old, new, cut, is_over)
                    places = with_text(with_text(("", ""), number - 1, left), number, found)
                    # the last signs may stand there already: then the new text is whole though it was cut
                    expected = (number, "new") if found == new else (number - 1, "left")
                    self.assertEqual(newest(places), expected, (number, cut, is_over))


if __name__ == "__main__":
    unittest.main()
