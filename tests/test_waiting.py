"""[17] Endings that take back what is not certain."""

import random
import unittest
from collections import Counter

from streamsure.machines import run
from streamsure.meaning import stream_of
from streamsure.queries import Blocks, Each, Lonely, Pairs, Sessions, Side, Windows
from streamsure.waiting import taken_back, waiting_for
from tests import plain
from tests.draws import KINDS, SHAPES, draw_letters, draw_query, letters_of

A = Side(KINDS, "a", {})
B = Side(KINDS, "b", {})


def event(time, number=0, k=0, v=0, w=0):
    return ("a", time, number, k, v, w)


def other(time, number=0, k=0, x=0):
    return ("b", time, number, k, x)


def side(**where):
    return Side(KINDS, "a", where)


class TakenBackCase(unittest.TestCase):
    def assert_taken_back(self, query, events, mark, answer, sure=0):
        """Some ending of events leaves the answer as often as it is certain."""
        ending = taken_back(query, events, mark, answer)
        self.assertIs(type(ending), tuple, (query.form(), events, mark, answer))
        self.assertGreater(len(ending), 0)
        self.assertEqual({letter[0] for letter in ending}, {"event"})
        letters = [*letters_of(events), ("mark", mark), *ending]
        run(query, letters)
        stands = Counter(plain.meaning(query, plain.stream(letters)[0]))
        self.assertEqual(stands[answer], sure, (query.form(), events, mark, answer, ending))

    def assert_certain(self, query, events, mark, answer):
        self.assertIn(answer, plain.meaning(query, events))
        self.assertIsNone(taken_back(query, events, mark, answer))


class DrawnTest(TakenBackCase):
    def test_drawn_answers(self):
        draw = random.Random(17)
        many = Counter()
        for number in range(1500):
            query = draw_query(draw, SHAPES[number % len(SHAPES)])
            letters = draw_letters(draw, draw.randint(1, 12), draw.choice((3, 6)))
            stream, mark, _ = stream_of(letters)
            sure = Counter(answer for told in run(query, letters)[1] for answer in told)
            stands = Counter(plain.meaning(query, stream))
            for answer in stands:
                if sure[answer] == stands[answer]:
                    self.assert_certain(query, stream, mark, answer)
                else:
                    self.assert_taken_back(query, stream, mark, answer, sure[answer])
                    many[query.__class__] += 1
            waits = waiting_for(query, stream, mark)
            self.assertIs(type(waits), tuple)
            self.assertEqual([answer for answer, ending in waits], sorted((stands - sure).keys()))
            for answer, ending in waits:
                self.assertEqual(ending, taken_back(query, stream, mark, answer))
        for shape in (Windows, Blocks, Sessions, Lonely):
            self.assertGreater(many[shape], 30, shape)
        self.assertEqual(many[Each] + many[Pairs], 0)

    def test_any_row_of_events(self):
        query = Windows(A, [], 5, 5, [("count",)])
        rows = [event(3), event(1), event(3), other(2)]
        for events in (rows, tuple(rows), set(rows)):
            self.assert_taken_back(query, events, 2, ((), 0, 5, 2))
            self.assertEqual([answer for answer, _ in waiting_for(query, events, 2)], [((), 0, 5, 2)])


class NeverTest(TakenBackCase):
    def test_each_and_pairs_never_wait(self):
        rows = [event(1), event(2, 1), other(2)]
        for query in (Each(A, []), Pairs(A, B, [], "near", 3, ([], [])), Pairs(A, B, [], "behind", 3, ([], []))):
            self.assertEqual(waiting_for(query, rows, 0), ())
            self.assert_certain(query, rows, 0, ())

    def test_an_empty_query_has_nothing_that_waits(self):
        self.assertEqual(waiting_for(Windows(side(k=[]), [], 5, 5, []), [event(1)], 0), ())


class WindowsTest(TakenBackCase):
    def windows(self, one, *worths):
        return Windows(one, ["k"], 5, 5, worths)

    def test_at_the_last_tick_and_behind_it(self):
        query = self.windows(A, ("count",))
        for mark in (0, 3, 4):
            self.assert_taken_back(query, [event(3)], mark, ((0,), 0, 5, 1))
        for mark in (5, 9):
            self.assert_certain(query, [event(3)], mark, ((0,), 0, 5, 1))

    def test_a_window_ahead_of_the_mark(self):
        self.assert_taken_back(self.windows(A, ("count",)), [event(33)], 2, ((0,), 30, 35, 1))

    def test_atleast_needs_as_many_more(self):
        query = self.windows(A, ("atleast", 4))
        self.assert_taken_back(query, [event(3)], 0, ((0,), 0, 5, 0))
        self.assert_certain(query, [event(3, n) for n in range(4)], 0, ((0,), 0, 5, 1))

    def test_worths_of_a_field(self):
        bounded = side(v=[(2, 4)])
        rows = [event(3, v=3)]
        for word, told in (("sum", 3), ("least", 3), ("greatest", 3), ("unlike", 1)):
            for one in (A, bounded):
                self.assert_taken_back(self.windows(one, (word, "v")), rows, 4, ((0,), 0, 5, told))
        self.assert_certain(self.windows(bounded, ("least", "v")), [event(3, v=2)], 0, ((0,), 0, 5, 2))
        self.assert_certain(self.windows(bounded, ("greatest", "v")), [event(3, v=4)], 0, ((0,), 0, 5, 4))
        all_seen = [event(3, n, v=n) for n in (2, 3, 4)]
        self.assert_certain(self.windows(bounded, ("unlike", "v")), all_seen, 0, ((0,), 0, 5, 3))
        self.assert_certain(self.windows(side(v=[(0, 0)]), ("sum", "v")), [event(3)], 0, ((0,), 0, 5, 0))

    def test_first_and_last(self):
        first, last = self.windows(A, ("first",)), self.windows(A, ("last",))
        rows = [event(2, 5), event(3, 4)]
        for mark in (0, 1, 2):
            self.assert_taken_back(first, rows, mark, ((0,), 0, 5, rows[0]))
        self.assert_certain(first, rows, 3, ((0,), 0, 5, rows[0]))
        for mark in (0, 3, 4):
            self.assert_taken_back(last, rows, mark, ((0,), 0, 5, rows[1]))
        self.assert_certain(last, rows, 5, ((0,), 0, 5, rows[1]))
        late = [event(4, 5)]
        self.assert_taken_back(last, late, 4, ((0,), 0, 5, late[0]))
        self.assert_taken_back(first, late, 4, ((0,), 0, 5, late[0]))

    def test_among_many_ids_of_one_time(self):
        rows = [event(4, number) for number in (-1, 0, 1, 2, 9)]
        self.assert_taken_back(self.windows(A, ("last",)), rows, 4, ((0,), 0, 5, rows[-1]))
        self.assert_taken_back(self.windows(A, ("first",)), rows, 4, ((0,), 0, 5, rows[0]))
        self.assert_taken_back(self.windows(A, ("count",)), rows, 4, ((0,), 0, 5, 5))
        for many in (6, 7, 9):
            self.assert_taken_back(self.windows(A, ("atleast", many)), rows, 4, ((0,), 0, 5, 0))

    def test_other_keys_stay_as_they_are(self):
        query = self.windows(A, ("count",))
        rows = [event(1, k=1), event(1, k=2)]
        for answer, ending in waiting_for(query, rows, 0):
            self.assertEqual({letter[1][3] for letter in ending}, {answer[0][0]})


class BlocksTest(TakenBackCase):
    def test_at_the_last_events_time_and_behind_it(self):
        for size in (1, 2, 3):
            query = Blocks(A, ["k"], size, [("sum", "v")])
            rows = [event(time, 0, 4, 1) for time in range(size)]
            answer = ((4,), 0, rows[0], rows[-1], size)
            for mark in range(size):
                self.assert_taken_back(query, rows, mark, answer)
            self.assert_certain(query, rows, size, answer)

    def test_ids_on_both_sides(self):
        query = Blocks(A, [], 1, [])
        rows = [event(3, number) for number in (-2, -1, 0, 1)]
        for place, row in enumerate(rows):
            self.assert_taken_back(query, rows, 3, ((), place, row, row))


class SessionsTest(TakenBackCase):
    def test_at_time_and_gap_and_behind_them(self):
        query = Sessions(A, ["k"], 3, [("count",)])
        rows = [event(2, k=4), event(5, k=4), event(9, k=4)]
        for mark in (0, 5, 8):
            self.assert_taken_back(query, rows, mark, ((4,), 2, 5, 2))
        self.assert_certain(query, rows, 9, ((4,), 2, 5, 2))
        for mark in (9, 12):
            self.assert_taken_back(query, rows, mark, ((4,), 9, 9, 1))
        self.assert_certain(query, rows, 13, ((4,), 9, 9, 1))


class LonelyTest(TakenBackCase):
    def test_at_time_and_reach_and_behind_them(self):
        query = Lonely(A, B, [("k", "k")], 3, ["k"])
        for mark in (0, 2, 5):
            self.assert_taken_back(query, [event(2, k=7)], mark, (7,))
        self.assert_certain(query, [event(2, k=7)], 6, (7,))

    def test_alike_answers_are_taken_back_as_far_as_they_can_be(self):
        query = Lonely(A, Side(KINDS, "b", {"k": [(0, 5)]}), [("k", "k")], 3, ["v"])
        rows = [event(1, v=2), event(4, v=2), event(6, v=2), event(4, k=9, v=2), event(9, 1, k=3, v=2)]
        self.assert_taken_back(query, rows, 5, (2,), 2)
        self.assert_taken_back(query, rows, 0, (2,), 1)
        self.assert_certain(query, [rows[0], rows[3]], 5, (2,))

    def test_a_key_that_no_event_can_have_or_no_event_at_all(self):
        rows = [event(2, k=7)]
        for where in ({"k": [(0, 6)]}, {"x": []}):
            query = Lonely(A, Side(KINDS, "b", where), [("k", "k")], 3, ["k"])
            self.assert_certain(query, rows, 0, (7,))
            self.assertEqual(waiting_for(query, rows, 0), ())


if __name__ == "__main__":
    unittest.main()
