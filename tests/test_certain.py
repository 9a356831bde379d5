"""[15] and [16] What is told is what is certain, at the very letter. [1]: what is so above all."""

import random
import unittest
from collections import Counter

from streamsure.machines import is_seen, run, step, told_by
from streamsure.meaning import meaning, stream_of
from streamsure.queries import Blocks, Each, Kinds, Lonely, Pairs, Sessions, Side, Windows
from tests import plain
from tests.draws import KINDS, SHAPES, draw_event, draw_letters, draw_query

A = Side(KINDS, "a", {})
B = Side(KINDS, "b", {})
C = Side(KINDS, "c", {})
END = ("end",)


def event(time, number=0, k=0, v=0, w=0):
    return ("event", ("a", time, number, k, v, w))


def other(time, number=0, k=0, x=0):
    return ("event", ("b", time, number, k, x))


def tick(time, number=0):
    return ("event", ("c", time, number))


def mark(time):
    return ("mark", time)


def counted(told):
    return Counter(answer for answers in told for answer in answers)


def side(**where):
    return Side(KINDS, "a", where)


class DrawnTest(unittest.TestCase):
    def test_what_is_told_stands_behind_each_ending_and_an_end_tells_all(self):
        draw = random.Random(15)
        for number in range(900):
            query = draw_query(draw, SHAPES[number % len(SHAPES)])
            letters = draw_letters(draw, draw.randint(0, 9), draw.choice((3, 6, 9)), 0.02)
            told = run(query, letters)[1]
            self.assertEqual(len(told), len(letters))
            for many in range(len(letters) + 1):
                sofar = counted(told[:many])
                for _ in range(3):
                    ending = draw_letters(draw, draw.randint(0, 5), 9, 0.02)
                    stream = plain.stream(letters[:many] + ending)[0]
                    stands = Counter(plain.meaning(query, stream))
                    self.assertEqual(sofar - stands, Counter(), (query.form(), letters[:many], ending))
            stands = Counter(plain.meaning(query, plain.stream(letters)[0]))
            over = run(query, [*letters, END])
            self.assertEqual(counted(over[1]), stands, (query.form(), letters))
            self.assertEqual(run(query, [*letters, END, *letters])[0], over[0])

    def test_run_and_told_by_and_step_are_one(self):
        draw = random.Random(16)
        for number in range(300):
            query = draw_query(draw, SHAPES[number % len(SHAPES)])
            letters = tuple(draw_letters(draw, draw.randint(0, 9), 6, 0.05))
            state, told = run(query, letters)
            self.assertIs(type(told), tuple)
            for answers in told:
                self.assertEqual(answers, tuple(sorted(answers)))
            self.assertEqual(told_by(query, letters), tuple(sorted(counted(told).elements())))
            behind, rest = run(query, letters[:-1])
            for letter in letters[-1:]:
                self.assertEqual(step(query, behind, letter), (state, told[-1]))
                self.assertEqual(rest, told[:-1])

    def test_drawn_events_are_seen_just_if_a_side_lets_them_through(self):
        draw = random.Random(17)
        for number in range(600):
            query = draw_query(draw, SHAPES[number % len(SHAPES)])
            drawn = draw_event(draw, 5)
            sides = [getattr(query, name) for name in ("side", "first", "second") if hasattr(query, name)]
            self.assertIs(is_seen(query, drawn), any(plain.is_let(one, drawn) for one in sides))

    def test_the_example_of_chapter_1(self):
        kinds = Kinds({"sale": ["shop", "price"]})
        sales = Side(kinds, "sale", {"price": [(1, None)]})
        query = Windows(sales, ["shop"], 10, 10, [("count",), ("least", "price")])
        sure = Windows(sales, ["shop"], 10, 10, [("least", "price")])
        letters = [("event", ("sale", 3, 0, 7, 5)), ("event", ("sale", 4, 1, 7, 1)),
                   ("event", ("sale", 3, 0, 7, 5)), ("mark", 10), ("event", ("sale", 9, 2, 7, 4))]
        self.assertEqual(run(query, letters)[1], ((), (), (), (((7,), 0, 10, 2, 1),), ()))
        self.assertEqual(run(sure, letters)[1], ((), (((7,), 0, 10, 1),), (), (), ()))


class TellsCase(unittest.TestCase):
    def assert_tells(self, query, *rows):
        """Each row is a letter and what is told at it."""
        letters = [letter for letter, answers in rows]
        told = run(query, letters)[1]
        self.assertEqual(list(told), [tuple(answers) for letter, answers in rows])
        stream = stream_of([*letters, END])[0]
        whole = run(query, [*letters, END])[1]
        self.assertEqual(counted(whole), Counter(meaning(query, stream)))

    def assert_waits(self, query, letters, closing, answer):
        """The answer is told at the closing mark, at no mark below it and no letter."""
        told = run(query, [*letters, mark(closing - 1), mark(closing)])[1]
        self.assertEqual(told[-1], (answer,))
        self.assertEqual(counted(told[:-1]), Counter())
        self.assertEqual(run(query, [*letters, END])[1][-1], (answer,))

    def assert_tells_last(self, query, letters, *answers):
        """The answers are told at the last letter, and nothing ahead of it."""
        told = run(query, letters)[1]
        self.assertEqual(told[-1], answers)
        self.assertEqual(counted(told[:-1]), Counter())


class EachTest(TellsCase):
    def test_each_is_told_at_once_and_once(self):
        self.assert_tells(
            Each(A, ["v"]), (event(5, v=1), [(1,)]), (event(5, v=1), []), (event(5, 1, v=1), [(1,)]),
            (mark(5), []), (event(4), []), (event(5, v=1), []), (event(9, v=2), [(2,)]), (END, []),
            (event(10), []),
        )


class WindowsTest(TellsCase):
    def windows(self, one, *worths):
        return Windows(one, [], 10, 10, worths)

    def test_without_worths_at_the_first_event(self):
        self.assert_tells(self.windows(A), (event(3), [((), 0, 10)]), (event(4), []),
                          (mark(10), []), (END, []))

    def test_count_waits_for_the_last_tick(self):
        self.assert_waits(self.windows(A, ("count",)), [event(3), event(4)], 10, ((), 0, 10, 2))
        self.assert_waits(self.windows(A, ("count",)), [mark(9), event(9)], 10, ((), 0, 10, 1))

    def test_atleast_is_told_once_it_is_1(self):
        query = self.windows(A, ("atleast", 2))
        self.assert_tells_last(query, [event(3), event(3), event(4)], ((), 0, 10, 1))
        self.assert_waits(query, [event(3), event(3)], 10, ((), 0, 10, 0))
        self.assert_tells_last(self.windows(A, ("atleast", 1)), [event(3)], ((), 0, 10, 1))

    def test_a_sum_waits_unless_its_field_may_be_0_alone(self):
        zero, one = side(v=[(0, 0)]), side(v=[(0, 1)])
        self.assert_tells_last(self.windows(zero, ("sum", "v")), [event(3)], ((), 0, 10, 0))
        self.assert_waits(self.windows(one, ("sum", "v")), [event(3)], 10, ((), 0, 10, 0))
        self.assert_waits(self.windows(side(v=[(5, 5)]), ("sum", "v")), [event(3, v=5)], 10, ((), 0, 10, 5))

    def test_least_at_the_end_of_the_set(self):
        query = self.windows(side(v=[(2, None)]), ("least", "v"))
        self.assert_tells_last(query, [event(3, v=3), event(4, v=2)], ((), 0, 10, 2))
        self.assert_waits(query, [event(3, v=3)], 10, ((), 0, 10, 3))
        # without that end of the set there is always a lesser one
        self.assert_waits(self.windows(side(v=[(None, 2)]), ("least", "v")), [event(3, v=2)], 10,
                          ((), 0, 10, 2))

    def test_greatest_at_the_end_of_the_set(self):
        query = self.windows(side(v=[(None, 2)]), ("greatest", "v"))
        self.assert_tells_last(query, [event(3, v=1), event(4, v=2)], ((), 0, 10, 2))
        self.assert_waits(query, [event(3, v=1)], 10, ((), 0, 10, 1))
        self.assert_waits(self.windows(side(v=[(2, None)]), ("greatest", "v")), [event(3, v=2)], 10,
                          ((), 0, 10, 2))

    def test_unlike_when_all_of_a_finite_set_was_seen(self):
        query = self.windows(side(v=[(1, 1), (3, 4)]), ("unlike", "v"))
        rows = [event(3, v=1), event(3, v=4), event(5, v=3)]
        self.assert_tells_last(query, rows, ((), 0, 10, 3))
        self.assert_waits(query, rows[:2], 10, ((), 0, 10, 2))
        self.assert_waits(self.windows(side(v=[(1, None)]), ("unlike", "v")), rows, 10, ((), 0, 10, 3))

    def test_first_when_its_time_is_below_the_mark(self):
        query = self.windows(A, ("first",))
        self.assert_tells_last(query, [event(3), mark(3), mark(4)], ((), 0, 10, event(3)[1]))
        self.assert_tells_last(query, [event(3), mark(3), event(3, -1), mark(4)],
                               ((), 0, 10, event(3, -1)[1]))
        # an event that comes late does not matter, one that comes below all others does
        self.assert_tells_last(query, [mark(2), event(5), event(2), event(1), mark(3)],
                               ((), 0, 10, event(2)[1]))

    def test_last_never_ahead_of_the_last_tick(self):
        self.assert_waits(self.windows(A, ("last",)), [event(9), mark(9)], 10, ((), 0, 10, event(9)[1]))
        self.assert_tells_last(self.windows(A, ("last",)), [event(9), event(9, 1), mark(10)],
                               ((), 0, 10, event(9, 1)[1]))

    def test_all_worths_must_be_fixed(self):
        query = self.windows(side(v=[(1, 2)]), ("least", "v"), ("greatest", "v"))
        self.assert_tells_last(query, [event(3, v=1), event(5, v=2)], ((), 0, 10, 1, 2))
        self.assert_waits(self.windows(side(v=[(1, 2)]), ("least", "v"), ("count",)), [event(3, v=1)], 10,
                          ((), 0, 10, 1, 1))

    def test_windows_that_overlap_are_told_one_by_one(self):
        query = Windows(C, [], 7, 5, [("count",)])
        self.assert_tells(
            query, (tick(0), []), (tick(5), []), (mark(1), []), (mark(2), [((), -5, 2, 1)]),
            (mark(6), []), (mark(7), [((), 0, 7, 2)]), (mark(11), []), (END, [((), 5, 12, 1)]), (END, []),
        )

    def test_keys_are_told_by_themselves(self):
        query = Windows(side(v=[(0, None)]), ["k"], 5, 5, [("least", "v")])
        self.assert_tells(
            query, (event(1, k=2, v=1), []), (event(1, k=1, v=0), [((1,), 0, 5, 0)]),
            (event(1, k=3, v=1), []), (mark(5), [((2,), 0, 5, 1), ((3,), 0, 5, 1)]),
        )

    def test_a_told_window_tells_no_more(self):
        query = self.windows(side(v=[(0, None)]), ("least", "v"))
        self.assert_tells(query, (event(1), [((), 0, 10, 0)]), (event(1), []), (event(2), []),
                          (event(3, v=4), []), (mark(5), []), (event(6), []), (mark(20), []), (END, []))


class BlocksTest(TellsCase):
    def test_when_the_last_events_time_is_below_the_mark(self):
        rows = [event(1), event(3), event(3, 1)]
        self.assert_waits(Blocks(A, [], 2, []), rows, 4, ((), 0, rows[0][1], rows[1][1]))
        self.assert_waits(Blocks(A, [], 1, []), [event(4)], 5, ((), 0, event(4)[1], event(4)[1]))

    def test_an_event_between_moves_the_others(self):
        rows = [event(1), event(3), mark(2), event(2), event(2), mark(3)]
        self.assert_tells_last(Blocks(A, [], 2, []), rows, ((), 0, event(1)[1], event(2)[1]))

    def test_answers_ascend_at_a_letter(self):
        rows = [event(1, k=3), event(2, k=1), event(3, k=2)]
        answers = tuple(((k,), 0, row[1], row[1]) for k, row in ((1, rows[1]), (2, rows[2]), (3, rows[0])))
        self.assert_tells_last(Blocks(A, ["k"], 1, []), [*rows, mark(5)], *answers)
        self.assert_tells_last(Blocks(A, ["k"], 1, []), [*rows, END], *answers)

    def test_a_rest_is_never_told(self):
        self.assert_tells(Blocks(C, [], 2, []), (tick(1), []), (mark(5), []), (tick(6), []),
                          (mark(7), [((), 0, ("c", 1, 0), ("c", 6, 0))]), (tick(7), []), (END, []))


class SessionsTest(TellsCase):
    def test_when_last_time_and_gap_are_below_the_mark(self):
        self.assert_waits(Sessions(A, [], 3, []), [event(2), event(4)], 8, ((), 2, 4))
        self.assert_waits(Sessions(A, [], 1, [("count",)]), [event(2), mark(2), event(2)], 4, ((), 2, 2, 1))

    def test_an_event_between_makes_one_of_two(self):
        query = Sessions(A, [], 2, [("count",)])
        self.assert_tells(query, (event(1), []), (event(5), []), (event(3), []), (mark(7), []),
                          (mark(8), [((), 1, 5, 3)]))

    def test_a_session_is_told_ahead_of_a_later_one(self):
        self.assert_tells(Sessions(C, [], 2, []), (tick(1), []), (tick(9), []), (mark(3), []),
                          (mark(4), [((), 1, 1)]), (tick(11), []), (END, [((), 9, 11)]))


class PairsTest(TellsCase):
    def test_at_once_and_once_whatever_comes_first(self):
        query = Pairs(A, B, [("k", "k")], "near", 2, (["id"], ["id"]))
        self.assert_tells(query, (event(5), []), (other(7), [(0, 0)]), (other(7), []), (event(5), []),
                          (event(8, 1), [(1, 0)]), (other(6, 2), [(0, 2), (1, 2)]), (END, []))

    def test_an_event_below_the_mark_still_pairs(self):
        for mode, reach in (("near", 4), ("behind", 4)):
            query = Pairs(A, B, [], mode, reach, (["time"], ["time"]))
            self.assert_tells(query, (event(3), []), (event(4), []), (mark(7), []), (event(4), []),
                              (other(7), [(3, 7), (4, 7)]), (other(8), [(4, 8)]))

    def test_alike_answers_are_told_as_often(self):
        query = Pairs(A, B, [], "near", 4, ([], []))
        self.assert_tells(query, (event(3), []), (event(3, 1), []), (mark(5), []), (other(6), [(), ()]))

    def test_behind_asks_for_a_later_time(self):
        query = Pairs(A, B, [], "behind", 2, (["time"], ["time"]))
        self.assert_tells(query, (other(5), []), (event(5), []), (event(3), [(3, 5)]), (event(4), [(4, 5)]),
                          (event(2), []))

    def test_behind_doublings_at_the_mark(self):
        query = Pairs(A, B, [], "behind", 2, (["time"], ["time"]))
        self.assert_tells(query, (event(3), []), (mark(4), []), (other(4), [(3, 4)]), (other(4), []),
                          (mark(4), []), (other(4), []))


class LonelyTest(TellsCase):
    def lonely(self, **where):
        return Lonely(A, Side(KINDS, "b", where), [("k", "k")], 3, ["id"])

    def test_when_time_and_reach_are_below_the_mark(self):
        self.assert_waits(self.lonely(), [event(2, 7)], 6, (7,))
        self.assert_waits(self.lonely(), [event(2, 7), other(2), other(6), other(3, k=1)], 6, (7,))

    def test_one_that_is_followed_at_the_next_tick_or_at_the_reach(self):
        for later in (3, 4, 5):
            self.assert_tells(self.lonely(), (event(2), []), (other(later), []), (mark(9), []), (END, []))
            self.assert_tells(self.lonely(), (event(2), []), (mark(3), []), (other(later), []), (END, []))
        self.assert_tells(self.lonely(), (event(2), []), (other(2), []), (other(6), []), (END, [(0,)]))

    def test_one_that_is_followed_is_never_told(self):
        self.assert_tells(self.lonely(), (event(2), []), (mark(5), []), (other(5), []), (mark(9), []),
                          (END, []))
        self.assert_tells(self.lonely(), (other(5), []), (event(2), []), (event(4), []), (END, []))

    def test_one_whose_key_no_event_of_the_second_side_can_have_at_once(self):
        query = self.lonely(k=[(1, 3)])
        self.assert_tells_last(query, [event(2, 7, k=0)], (7,))
        self.assert_tells(query, (event(2, 7, k=4), [(7,)]), (event(2, 7, k=4), []), (event(2, 7, k=3), []),
                          (END, [(7,)]))

    def test_a_second_side_without_events(self):
        self.assert_tells_last(self.lonely(x=[]), [event(2, 7)], (7,))

    def test_alike_answers_are_told_as_often(self):
        query = Lonely(A, B, [], 2, ["v"])
        self.assert_tells(query, (event(1, v=4), []), (event(1, 1, v=4), []), (event(3, v=4), []),
                          (mark(4), [(4,), (4,)]), (END, [(4,)]))


class EmptyTest(TellsCase):
    def test_empty_queries_tell_nothing(self):
        none = side(k=[])
        narrow = Pairs(side(k=[(0, 1)]), Side(KINDS, "b", {"k": [(2, 3)]}), [("k", "k")], "near", 3, ([], []))
        for query in (Each(none, []), Windows(none, [], 2, 2, []), Blocks(none, [], 1, []),
                      Sessions(none, [], 1, []), narrow, Lonely(none, B, [], 1, [])):
            self.assertTrue(query.is_empty())
            rows = [(letter, []) for letter in (event(1), other(1), mark(3), event(4, k=2), END, event(5))]
            self.assert_tells(query, *rows)
            self.assertIs(is_seen(query, event(1)[1]), query is narrow)


if __name__ == "__main__":
    unittest.main()
