"""[4] Letters, the mark, which events are taken; [15] BadLetter for what is no letter."""

import random
import unittest

from streamsure.errors import BadLetter
from streamsure.machines import run, told_by
from streamsure.meaning import stream_of
from streamsure.queries import Each, Lonely, Pairs, Side, Windows
from tests import plain
from tests.draws import KINDS, draw_letters

A = Side(KINDS, "a", {})
B = Side(KINDS, "b", {})
QUERIES = (
    Each(A, ["v"]),
    Windows(A, ["k"], 10, 5, [("count",)]),
    Pairs(A, B, [("k", "k")], "near", 3, (["id"], [])),
    Lonely(A, B, [], 3, ["id"]),
    # an empty query reads letters as well as any other
    Each(Side(KINDS, "a", {"k": []}), ["v"]),
)
ONE = ("a", 4, 0, 1, 2, 3)
TWO = ("b", 5, -7, 1, 2)

NO_LETTERS = (
    None, True, 5, "end", "", b"end", (), [], {}, set(), object(), (None,), (5,), ("event",),
    ["end"], ("end", None), ("end", 3), ("END",), ("stop",), ("end",) * 2, (("end",),),
    ["mark", 3], ("mark",), ("mark", -1), ("mark", None), ("mark", True), ("mark", False),
    ("mark", 1.0), ("mark", "1"), ("mark", (1,)), ("mark", 1, 2), ("mark", ONE), ("Mark", 1),
    ["event", ONE], ("event", ONE, 1), ("event", list(ONE)), ("event", None), ("event", ()),
    ("event", 4), ("event", "a"), ("event", "abc"), ("event", ("a",)), ("event", ("a", 4)),
    ("event", ("a", 4, 0)), ("event", ONE[:5]), ("event", (*ONE, 0)), ("event", ("d", 4, 0)),
    ("event", ("a", -1, 0, 1, 2, 3)), ("event", ("a", 4, True, 1, 2, 3)),
    ("event", ("a", None, 0, 1, 2, 3)), ("event", ("a", 4, 0, 1, 2, 3.0)),
    ("event", ("a", 4, 0, 1, 2, "3")), ("event", ("a", 4, 0, 1, [2], 3)),
    ("event", (b"a", 4, 0, 1, 2, 3)), ("event", (1, 4, 0, 1, 2, 3)), ("event", ("b", 5, 0, 1)),
    ("event", (["a"], 4, 0, 1, 2, 3)), ("other", ONE), (ONE, "event"), ONE,
    ({"event": 1}, ONE), ([], ONE), ({}, 3), (set(),),
)


class StreamTest(unittest.TestCase):
    def test_no_letters(self):
        self.assertEqual(stream_of([]), ((), 0, False))
        self.assertEqual(stream_of(()), ((), 0, False))

    def test_events_are_taken_once_and_ascend(self):
        letters = [("event", TWO), ("event", ONE), ("event", TWO), ("event", ONE)]
        self.assertEqual(stream_of(letters), ((ONE, TWO), 0, False))
        self.assertEqual(stream_of(tuple(letters)), ((ONE, TWO), 0, False))

    def test_another_id_is_another_event(self):
        rows = [("c", 2, 1), ("c", 2, -1), ("c", 2, 0), ("c", 1, 9)]
        self.assertEqual(stream_of([("event", row) for row in rows])[0], tuple(sorted(rows)))

    def test_the_same_time_and_id_may_come_with_other_numbers(self):
        other = ("a", 4, 0, 1, 2, 4)
        self.assertEqual(stream_of([("event", other), ("event", ONE)])[0], (ONE, other))

    def test_an_event_below_the_mark_is_late(self):
        self.assertEqual(stream_of([("mark", 5), ("event", ONE)]), ((), 5, False))

    def test_an_event_whose_time_is_the_mark_is_taken(self):
        self.assertEqual(stream_of([("mark", 4), ("event", ONE)]), ((ONE,), 4, False))

    def test_a_mark_takes_nothing_back(self):
        self.assertEqual(stream_of([("event", ONE), ("mark", 5)]), ((ONE,), 5, False))
        self.assertEqual(stream_of([("event", ONE), ("mark", 5), ("event", ONE)]), ((ONE,), 5, False))

    def test_marks_that_go_back_or_stand_still(self):
        letters = [("mark", 5), ("mark", 5), ("mark", 2), ("event", ONE), ("event", TWO)]
        self.assertEqual(stream_of(letters), ((TWO,), 5, False))

    def test_nothing_is_taken_behind_an_end(self):
        letters = [("event", ONE), ("end",), ("event", TWO), ("end",)]
        self.assertEqual(stream_of(letters), ((ONE,), 0, True))

    def test_the_mark_is_the_greatest_one_behind_an_end_too(self):
        letters = [("mark", 3), ("end",), ("mark", 7), ("event", ("c", 9, 0)), ("mark", 1)]
        self.assertEqual(stream_of(letters), ((), 7, True))

    def test_drawn_letters(self):
        draw = random.Random(4)
        for _ in range(300):
            letters = draw_letters(draw, draw.randint(0, 12), 6, 0.05)
            taken, mark, over = plain.stream(letters)
            self.assertEqual(stream_of(letters), (tuple(sorted(taken)), mark, over))

    def test_what_can_be_a_letter_of_no_kinds(self):
        for thing in (None, "end", ["end"], ("mark", -1), ("event", ("a", -1, 0)), ("event", ("A", 1, 0))):
            with self.assertRaises(BadLetter) as caught:
                stream_of([("mark", 1), ("event", ONE), thing, None])
            self.assertEqual(caught.exception.number, 2)


class BadLetterTest(unittest.TestCase):
    def assert_bad(self, number, query, letters):
        for read in (run, told_by):
            with self.assertRaises(BadLetter) as caught:
                read(query, letters)
            self.assertEqual(caught.exception.number, number, letters)

    def test_each_wrong_thing_by_itself(self):
        for query in QUERIES:
            for thing in NO_LETTERS:
                self.assert_bad(0, query, [thing])

    def test_the_first_wrong_number(self):
        right = [("event", ONE), ("mark", 3), ("event", TWO), ("event", ONE)]
        for query in QUERIES:
            for thing in NO_LETTERS:
                self.assert_bad(4, query, [*right, thing])
                self.assert_bad(2, query, (*right[:2], thing, *right[2:], None))

    def test_behind_an_end_and_below_the_mark(self):
        late = ("event", ("a", 1, 0, 1, 2))
        for query in QUERIES:
            self.assert_bad(1, query, [("end",), None])
            self.assert_bad(3, query, [("mark", 9), ("end",), ("event", TWO), late, ("end",)])
            self.assert_bad(1, query, [("mark", 9), late])

    def test_events_of_kinds_that_no_side_asks_for_are_letters(self):
        for query in QUERIES:
            self.assertEqual(len(run(query, [("event", ("c", 1, 0)), ("mark", 0), ("end",)])[1]), 3)

    def test_an_event_of_kinds_that_the_query_does_not_know_is_no_letter(self):
        for query in QUERIES:
            self.assert_bad(0, query, [("event", ("sale", 1, 0))])


if __name__ == "__main__":
    unittest.main()
