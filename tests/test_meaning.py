"""[6] to [12], [14] What each shape means: told cases, and drawn ones against a plain count."""

import random
import unittest

from streamsure.meaning import meaning
from streamsure.queries import Blocks, Each, Lonely, Pairs, Sessions, Side, Windows
from tests import plain
from tests.draws import KINDS, SHAPES, draw_event, draw_query

A = Side(KINDS, "a", {})
B = Side(KINDS, "b", {})
C = Side(KINDS, "c", {})


def event(time, number=0, k=0, v=0, w=0):
    return ("a", time, number, k, v, w)


def times(*rows):
    return [("c", time, 0) for time in rows]


class MeaningCase(unittest.TestCase):
    def assert_means(self, query, events, answers):
        self.assertEqual(meaning(query, events), answers)
        self.assertEqual(plain.meaning(query, events), answers)


class DrawnTest(unittest.TestCase):
    def test_drawn_queries_and_events(self):
        draw = random.Random(14)
        for number in range(1500):
            query = draw_query(draw, SHAPES[number % len(SHAPES)])
            top = draw.choice((4, 9))
            events = [draw_event(draw, top) for _ in range(draw.randint(0, 14))]
            found = meaning(query, events)
            self.assertEqual(found, plain.meaning(query, events), (query.form(), events))
            self.assertIs(type(found), list)
            if query.is_empty():
                self.assertEqual(found, [])
            for rows in (set(events), tuple(events), events[::-1], events + events):
                self.assertEqual(meaning(query, rows), found)

    def test_each_shape_is_drawn_with_many_answers(self):
        draw = random.Random(15)
        for shape in SHAPES:
            many = 0
            for _ in range(60):
                events = {draw_event(draw, 6) for _ in range(12)}
                many += len(meaning(draw_query(draw, shape), events))
            self.assertGreater(many, 20, shape)


class EachTest(MeaningCase):
    def test_what_is_told_in_its_order(self):
        query = Each(A, ["w", "time", "k", "id", "w"])
        self.assert_means(query, [("a", 4, -2, 7, 8, 9)], [(9, 4, 7, -2, 9)])

    def test_nothing_told_of_several_events(self):
        self.assert_means(Each(C, []), times(1, 2, 2, 3), [(), (), ()])

    def test_an_answer_as_often_as_it_stands_there(self):
        rows = [event(1, 0, v=5), event(1, 1, v=5), event(2, 0, v=4)]
        self.assert_means(Each(A, ["v"]), rows, [(4,), (5,), (5,)])

    def test_only_what_is_let_through(self):
        query = Each(Side(KINDS, "a", {"v": [(2, 3), (5, None)], "k": [(None, 0)]}), ["v"])
        rows = [event(1, n, v=n) for n in range(8)] + [event(1, 9, k=1, v=2), ("b", 1, 1, 0, 2)]
        self.assert_means(query, rows, [(2,), (3,), (5,), (6,), (7,)])

    def test_no_events(self):
        for query in (Each(A, []), Windows(A, [], 3, 2, []), Blocks(A, [], 1, []),
                      Sessions(A, [], 1, []), Pairs(A, B, [], "near", 0, ([], [])),
                      Lonely(A, B, [], 1, [])):
            self.assert_means(query, [], [])


class WindowsTest(MeaningCase):
    def test_windows_that_do_not_overlap(self):
        query = Windows(C, [], 10, 10, [("count",)])
        self.assert_means(query, times(0, 9, 10, 29), [((), 0, 10, 2), ((), 10, 20, 1), ((), 20, 30, 1)])

    def test_windows_begin_below_0_too(self):
        query = Windows(C, [], 5, 2, [])
        self.assert_means(query, times(0), [((), -4, 1), ((), -2, 3), ((), 0, 5)])
        self.assert_means(query, times(1), [((), -2, 3), ((), 0, 5)])

    def test_a_length_that_is_no_multiple_of_the_step(self):
        query = Windows(C, [], 7, 5, [("count",)])
        self.assert_means(query, times(5, 6, 7), [((), 0, 7, 2), ((), 5, 12, 3)])
        self.assert_means(query, times(1, 2), [((), -5, 2, 1), ((), 0, 7, 2)])

    def test_the_first_and_the_last_tick_of_a_window(self):
        query = Windows(C, [], 4, 4, [])
        self.assert_means(query, times(3), [((), 0, 4)])
        self.assert_means(query, times(4), [((), 4, 8)])
        self.assert_means(query, times(7, 8), [((), 4, 8), ((), 8, 12)])

    def test_windows_of_one_tick(self):
        self.assert_means(Windows(C, [], 1, 1, [("count",)]), times(3), [((), 3, 4, 1)])

    def test_keys_of_none_one_and_two_fields(self):
        rows = [event(0, 0, 1, 2), event(1, 0, 1, 3), event(2, 0, 2, 2)]
        self.assert_means(Windows(A, [], 5, 5, [("count",)]), rows, [((), 0, 5, 3)])
        self.assert_means(Windows(A, ["k"], 5, 5, [("count",)]), rows, [((1,), 0, 5, 2), ((2,), 0, 5, 1)])
        self.assert_means(Windows(A, ["v", "k"], 5, 5, []), rows,
                          [((2, 1), 0, 5), ((2, 2), 0, 5), ((3, 1), 0, 5)])

    def test_each_worth(self):
        rows = [event(3, 5, 0, 4, 1), event(1, 9, 0, -2, 1), event(1, 2, 0, 4, 7)]
        for worth, told in (
            (("count",), 3), (("atleast", 1), 1), (("atleast", 3), 1), (("atleast", 4), 0),
            (("sum", "v"), 6), (("least", "v"), -2), (("greatest", "v"), 4), (("unlike", "v"), 2),
            (("unlike", "w"), 2), (("first",), rows[2]), (("last",), rows[0]),
        ):
            self.assert_means(Windows(A, [], 5, 5, [worth]), rows, [((), 0, 5, told)])
        query = Windows(A, ["k"], 5, 5, [("last",), ("count",), ("sum", "w"), ("count",)])
        self.assert_means(query, rows, [((0,), 0, 5, rows[0], 3, 9, 3)])

    def test_first_and_last_go_by_time_then_id_then_fields(self):
        rows = [event(1, 0, 5), event(1, 0, 4), event(2, -9, 9), event(2, 0, 0)]
        self.assert_means(Windows(A, [], 5, 5, [("first",), ("last",)]), rows,
                          [((), 0, 5, rows[1], rows[3])])


class BlocksTest(MeaningCase):
    def test_blocks_with_a_rest(self):
        query = Blocks(C, [], 2, [("count",)])
        rows = times(1, 2, 3, 4, 5)
        self.assert_means(query, rows, [((), 0, rows[0], rows[1], 2), ((), 1, rows[2], rows[3], 2)])
        self.assert_means(query, rows[:1], [])
        self.assert_means(query, rows[:2], [((), 0, rows[0], rows[1], 2)])

    def test_blocks_of_one(self):
        rows = [event(1, 1, 0, 4), event(1, 0, 0, 5)]
        self.assert_means(Blocks(A, [], 1, [("sum", "v")]), rows,
                          [((), 0, rows[1], rows[1], 5), ((), 1, rows[0], rows[0], 4)])

    def test_each_key_has_blocks_and_worths_of_its_own(self):
        rows = [event(1, 0, 1, 5), event(2, 0, 2, 6), event(3, 0, 1, 7), event(4, 0, 2, 6), event(5)]
        worths = [("sum", "v"), ("least", "v"), ("greatest", "v"), ("unlike", "v"), ("count",)]
        self.assert_means(Blocks(A, ["k"], 2, worths), rows, [
            ((1,), 0, rows[0], rows[2], 12, 5, 7, 2, 2), ((2,), 0, rows[1], rows[3], 12, 6, 6, 1, 2),
        ])


class SessionsTest(MeaningCase):
    def test_the_gap_and_one_more(self):
        query = Sessions(C, [], 3, [("count",)])
        self.assert_means(query, times(2, 5), [((), 2, 5, 2)])
        self.assert_means(query, times(2, 6), [((), 2, 2, 1), ((), 6, 6, 1)])
        self.assert_means(query, times(0, 3, 6, 10, 13), [((), 0, 6, 3), ((), 10, 13, 2)])

    def test_events_of_one_time_are_one_session(self):
        self.assert_means(Sessions(A, [], 1, [("count",)]), [event(1, 0), event(1, 1)], [((), 1, 1, 2)])

    def test_keys_and_worths(self):
        rows = [event(1, 0, 1, 5), event(2, 0, 2, 6), event(3, 0, 1, 7), event(3, -1, 1, -7)]
        worths = [("sum", "v"), ("least", "v"), ("greatest", "v"), ("count",), ("first",), ("last",)]
        self.assert_means(Sessions(A, ["k"], 2, worths), rows, [
            ((1,), 1, 3, 5, -7, 7, 3, rows[0], rows[2]),
            ((2,), 2, 2, 6, 6, 6, 1, rows[1], rows[1]),
        ])


class PairsTest(MeaningCase):
    def test_near_pairs_on_both_sides(self):
        query = Pairs(A, C, [], "near", 2, (["time"], ["time"]))
        self.assert_means(query, [event(5), *times(2, 3, 5, 7, 8)], [(5, 3), (5, 5), (5, 7)])

    def test_near_with_reach_0(self):
        query = Pairs(A, C, [], "near", 0, ([], ["time"]))
        self.assert_means(query, [event(5), *times(4, 5, 6)], [(5,)])

    def test_behind_pairs_at_the_reach_and_one_more(self):
        query = Pairs(A, C, [], "behind", 3, (["id"], ["time"]))
        self.assert_means(query, [event(5), *times(4, 5, 6, 8, 9)], [(0, 6), (0, 8)])

    def test_keys_must_be_alike(self):
        rows = [event(1, 0, 1, 2), event(1, 1, 2, 2), ("b", 1, 0, 1, 2), ("b", 1, 1, 2, 1)]
        told = (["id"], ["id"])
        self.assert_means(Pairs(A, B, [("k", "k")], "near", 1, told), rows, [(0, 0), (1, 1)])
        self.assert_means(Pairs(A, B, [("v", "k")], "near", 1, told), rows, [(0, 1), (1, 1)])
        self.assert_means(Pairs(A, B, [("k", "k"), ("v", "x")], "near", 1, told), rows, [(0, 0)])

    def test_an_answer_as_often_as_it_stands_there(self):
        query = Pairs(A, C, [], "near", 1, (["v"], []))
        rows = [event(1, 0, 0, 3), event(1, 1, 0, 3), *times(1, 2)]
        self.assert_means(query, rows, [(3,)] * 4)


class LonelyTest(MeaningCase):
    def test_followed_at_the_reach_and_one_later(self):
        query = Lonely(A, C, [], 3, ["time"])
        for later, answers in ((4, [(5,)]), (5, [(5,)]), (6, []), (8, []), (9, [(5,)])):
            self.assert_means(query, [event(5), *times(later)], answers)

    def test_only_by_events_of_its_key(self):
        rows = [event(1, 0, 1, 2), event(1, 1, 2, 2), ("b", 2, 0, 1, 2)]
        self.assert_means(Lonely(A, B, [("k", "k")], 3, ["id"]), rows, [(1,)])
        self.assert_means(Lonely(A, B, [("v", "x")], 3, ["id"]), rows, [])

    def test_without_any_event_of_the_second_side(self):
        second = Side(KINDS, "b", {"x": []})
        rows = [event(1, 0, 0, 3), event(1, 1, 0, 3), ("b", 2, 0, 0, 0)]
        self.assert_means(Lonely(A, second, [], 3, ["v"]), rows, [(3,), (3,)])


if __name__ == "__main__":
    unittest.main()
