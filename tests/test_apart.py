"""[19] Endings that tell unlike states apart, however little is unlike."""

import random
import unittest
from collections import Counter

from streamsure.apart import told_apart
from streamsure.machines import run, step
from streamsure.meaning import stream_of
from streamsure.queries import Blocks, Each, Lonely, Pairs, Sessions, Side, Windows
from tests import plain
from tests.draws import KINDS, SHAPES, draw_letters, draw_narrow, draw_narrow_letters, draw_near, draw_query

A = Side(KINDS, "a", {})
B = Side(KINDS, "b", {})
C = Side(KINDS, "c", {})
END = ("end",)


def event(time, number=0, k=0, v=0, w=0):
    return ("event", ("a", time, number, k, v, w))


def other(time, number=0, k=0, x=0):
    return ("event", ("b", time, number, k, x))


def tick(time, number=0):
    return ("event", ("c", time, number))


def mark(time):
    return ("mark", time)


def side(**where):
    return Side(KINDS, "a", where)


def told_behind(query, state, ending):
    told = []
    for letter in ending:
        state, answers = step(query, state, letter)
        told.append(answers)
    return told


class ApartCase(unittest.TestCase):
    def assert_apart(self, query, one, other_one):
        """Two rows of letters lead to unlike states, and the ending shows it both ways."""
        states = run(query, one)[0], run(query, other_one)[0]
        self.assertNotEqual(*states)
        for first, second in (states, states[::-1]):
            ending = told_apart(query, first, second)
            self.assertIs(type(ending), tuple, (query.form(), one, other_one))
            self.assertNotEqual(told_behind(query, first, ending), told_behind(query, second, ending))
        # the meaning, counted plainly, less what was told, shows it as well
        left = []
        for letters in (one, other_one):
            stands = Counter(plain.meaning(query, stream_of([*letters, *ending])[0]))
            sure = Counter(a for answers in run(query, [*letters, *ending])[1][len(letters):] for a in answers)
            self.assertEqual(sure - stands, Counter())
            left.append(sure)
        self.assertNotEqual(*left)

    def assert_all_apart(self, query, *rows):
        for place, one in enumerate(rows):
            for other_one in rows[:place]:
                self.assert_apart(query, one, other_one)
            self.assertIsNone(told_apart(query, run(query, one)[0], run(query, [*one, *one[-1:]])[0]))


class DrawnTest(ApartCase):
    def test_near_beginnings(self):
        draw = random.Random(19)
        unlike = Counter()
        for number in range(1800):
            query = draw_query(draw, SHAPES[number % len(SHAPES)])
            letters = draw_letters(draw, draw.randint(0, 9), draw.choice((4, 7)))
            near = draw_near(draw, letters, 7)
            one, two = run(query, letters)[0], run(query, near)[0]
            if one == two:
                self.assertIsNone(told_apart(query, one, two))
            else:
                unlike[query.__class__] += 1
                self.assert_apart(query, letters, near)
        for shape in SHAPES:
            self.assertGreater(unlike[shape], 60, shape)

    def test_near_beginnings_with_lifted_live_times(self):
        draw = random.Random(191)
        unlike = Counter()
        for _ in range(1200):
            query = draw_narrow(draw)
            letters = draw_narrow_letters(draw, query, draw.randint(1, 10), 8)
            near = list(letters)
            near.insert(draw.randint(0, len(near)), draw_narrow_letters(draw, query, 1, 8)[0])
            if run(query, letters)[0] != run(query, near)[0]:
                unlike[query.__class__] += 1
                self.assert_apart(query, letters, near)
        for shape in (Windows, Sessions, Lonely):
            self.assertGreater(unlike[shape], 60, shape)

    def test_beginnings_that_have_nothing_to_do_with_each_other(self):
        draw = random.Random(20)
        for number in range(600):
            query = draw_query(draw, SHAPES[number % len(SHAPES)])
            rows = [draw_letters(draw, draw.randint(0, 7), 6, 0.05) for _ in range(2)]
            if run(query, rows[0])[0] != run(query, rows[1])[0]:
                self.assert_apart(query, *rows)

    def test_endings_are_letters(self):
        draw = random.Random(21)
        for number in range(600):
            query = draw_query(draw, SHAPES[number % len(SHAPES)])
            letters = draw_letters(draw, 6, 6)
            states = [run(query, row)[0] for row in (letters, draw_near(draw, letters, 6))]
            ending = told_apart(query, *states)
            if ending is not None:
                run(query, [*letters, *ending])


class OverTest(ApartCase):
    def test_an_end_alone(self):
        draw = random.Random(22)
        for number in range(120):
            query = draw_query(draw, SHAPES[number % len(SHAPES)], False)
            letters = draw_letters(draw, draw.randint(0, 6), 6)
            if not query.is_empty():
                self.assert_apart(query, letters, [*letters, END])

    def test_empty_queries(self):
        query = Windows(side(k=[]), [], 5, 5, [])
        self.assertIsNone(told_apart(query, run(query, [])[0], run(query, [event(1), END])[0]))


class EachTest(ApartCase):
    def test_one_kept_event_and_the_mark(self):
        self.assert_all_apart(Each(A, []), [], [event(3)], [event(3, 1)], [event(3), event(4)], [mark(2)],
                              [event(3), mark(2)], [mark(3)])


class WindowsTest(ApartCase):
    def test_the_live_time_alone(self):
        query = Windows(side(v=[(0, 9)]), ["k"], 10, 10, [("least", "v")])
        self.assert_all_apart(query, [event(3)], [event(3), mark(1)], [event(3), mark(9)])
        waits = [event(3, v=5), event(3, k=1, v=5)]
        self.assert_all_apart(query, waits, [*waits, mark(1)], [*waits, mark(9)])
        only = Windows(side(v=[(0, 9)]), [], 10, 10, [("least", "v")])
        self.assert_all_apart(only, [event(3, v=5)], [event(3, v=5), mark(1)], [mark(10)], [mark(11)])

    def test_the_live_time_alone_by_each_worth(self):
        fields = [(word, "v") for word in ("sum", "least", "greatest", "unlike")]
        for worth in (("count",), ("atleast", 3), ("first",), ("last",), *fields):
            query = Windows(A, [], 10, 10, [worth])
            rows = [[event(7, v=3), mark(time)] for time in (0, 2, 7)]
            # ahead of the last one's time nothing changes it
            rows = rows[1:] + [[event(7, v=3), mark(8)]] if worth != ("last",) else [rows[1], [event(7), mark(8)]]
            self.assert_all_apart(query, *rows)

    def test_the_live_time_alone_at_which_first_ends(self):
        query = Windows(A, [], 10, 10, [("first",), ("last",)])
        self.assert_all_apart(query, [event(3), event(6), mark(3)], [event(3), event(6), mark(4)],
                              [event(3), event(6), mark(7)])

    def test_a_key_of_finite_sets_that_is_left(self):
        one = side(k=[(0, 1)], v=[(3, 3), (5, 5)])
        keys = [(0, 3), (0, 5), (1, 3), (1, 5)]
        for query in (Windows(one, ["k", "v"], 10, 10, []), Sessions(one, ["v", "k"], 9, [])):
            for left in keys:
                rows = [row for k, v in keys if (k, v) != left
                        for row in (event(2, k=k, v=v), event(8, k=k, v=v))]
                self.assert_all_apart(query, *[[*rows, mark(time)] for time in (2, 3, 7)])

    def test_what_was_told_already(self):
        query = Windows(side(v=[(0, 9)]), ["k"], 10, 10, [("least", "v")])
        self.assert_all_apart(query, [mark(5)], [event(5), mark(5)], [event(15), mark(5)],
                              [event(5, k=1), mark(5)], [event(5, v=1), mark(5)])
        bare = Windows(A, [], 4, 2, [])
        self.assert_all_apart(bare, [mark(5)], [event(5), mark(5)], [event(6), mark(5)], [event(3), mark(4)])

    def test_one_kept_event(self):
        for worths in ([("count",)], [("sum", "v")], [("atleast", 3)], [("atleast", 7)],
                       [("least", "v"), ("atleast", 4)]):
            query = Windows(A, [], 10, 5, worths)
            self.assert_all_apart(query, [event(6, v=2), event(7, v=2)], [event(6, v=2), event(8, v=2)],
                                  [event(6, v=2), event(7, 1, v=2)])

    def test_one_number_of_a_worth(self):
        low = mark(8)
        query = Windows(A, [], 10, 10, [("count",)])
        self.assert_all_apart(query, *[[event(n) for n in range(many)] + [low] for many in range(4)])
        query = Windows(A, [], 10, 10, [("atleast", 5)])
        self.assert_all_apart(query, *[[event(n) for n in range(many)] + [low] for many in range(7 - 1)])
        for word in ("sum", "least", "greatest"):
            query = Windows(A, [], 10, 10, [(word, "v")])
            self.assert_all_apart(query, *[[event(1, v=v), low] for v in (-1, 0, 2)])
        for word in ("first", "last"):
            query = Windows(A, [], 10, 10, [(word,)])
            self.assert_all_apart(query, *[[event(1, n), mark(1)] for n in range(3)])

    def test_unlike_numbers_as_many_but_others(self):
        low = mark(8)
        query = Windows(side(v=[(0, 9)]), [], 10, 10, [("unlike", "v")])
        rows = [[event(1, v=v), event(2, v=v + 1), low] for v in range(4)]
        self.assert_all_apart(query, *rows, [event(1, v=1), low], [event(1, v=1), event(1, v=2), event(1, v=3), low])

    def test_far_numbers(self):
        query = Windows(A, [], 10, 10, [("atleast", 40)])
        self.assert_all_apart(query, [event(2001, 10 ** 12)], [event(2001, -10 ** 12)], [event(1)])


class BlocksTest(ApartCase):
    def test_the_mark_alone(self):
        for size in (1, 2, 3):
            query = Blocks(A, ["k"], size, [("count",)])
            self.assert_all_apart(query, [], [mark(1)], [mark(2)], [mark(2), event(5)], [mark(3), event(5)])

    def test_how_many_are_behind_the_mark(self):
        for size in (1, 2, 3, 4):
            query = Blocks(A, [], size, [])
            rows = [[event(n) for n in range(many)] + [mark(9)] for many in range(9)]
            self.assert_all_apart(query, *rows)

    def test_which_side_of_the_mark(self):
        for size in (1, 2, 3):
            query = Blocks(A, [], size, [])
            self.assert_all_apart(query, [event(1), event(2), mark(3), event(5)], [event(1), mark(3), event(3), event(5)],
                                  [mark(3), event(4), event(3), event(5)])

    def test_one_kept_event(self):
        for size in (1, 2, 3, 5):
            query = Blocks(A, [], size, [])
            base = [event(2), event(9)]
            self.assert_all_apart(query, *[[*base, event(5, n)] for n in (-1, 0, 1)], base)
            low = [event(1), mark(2)]
            self.assert_all_apart(query, *[[*low, *base, event(5, n)] for n in (-1, 0, 1)])

    def test_the_rest(self):
        for size in (3, 5):
            for worth in (("sum", "v"), ("least", "v"), ("greatest", "v")):
                query = Blocks(A, [], size, [worth])
                numbers = (-3, -2, -1) if worth[0] == "least" else (1, 2, 3)
                rows = [[event(0, w=1), event(1, v=v), mark(9)] for v in numbers]
                self.assert_all_apart(query, *rows)
            self.assert_all_apart(Blocks(A, [], size, []), *[[event(0, n), mark(9)] for n in range(3)])

    def test_unlike_numbers_of_the_rest(self):
        query = Blocks(side(v=[(0, 5)]), [], 3, [("unlike", "v")])
        rows = [[event(0, v=a), event(1, v=b), mark(9)] for a, b in ((0, 1), (1, 2), (3, 4), (5, 5), (1, 1))]
        self.assert_all_apart(query, *[[event(0), *row[1:]] for row in rows[:3]])
        # the same first event, and other numbers behind it
        self.assert_all_apart(Blocks(side(v=[(0, 5)]), [], 4, [("unlike", "v")]),
                              *[[event(0), *row] for row in rows[1:]])


    def test_one_of_several_keys(self):
        for size in (2, 3, 4):
            query = Blocks(A, ["k"], size, [("sum", "v")])
            base = [event(1, k=1), event(2, k=2), event(3, k=3)]
            low = mark(5)
            self.assert_all_apart(query, [*base, low], *[[*base, event(4, k=k), low] for k in (1, 2, 3, 4)])
            self.assert_all_apart(query, [*base, low], *[[*base, low, event(6, k=k)] for k in (1, 2, 3, 4)])
            self.assert_all_apart(query, *[[*base[:2], event(3, k=3, v=v), low] for v in (1, 2)])


class SessionsTest(ApartCase):
    def test_the_live_time_alone(self):
        query = Sessions(A, [], 3, [])
        rows = [event(3), event(5)]
        self.assert_all_apart(query, rows, [*rows, mark(2)], [*rows, mark(3)], [*rows, mark(7)])
        for worth in (("count",), ("sum", "v"), ("least", "v"), ("greatest", "v"), ("first",), ("last",)):
            query = Sessions(A, [], 3, [worth])
            self.assert_all_apart(query, *[[*rows, mark(time)] for time in (1, 2, 6, 7)])
        for worth in (("count",), ("sum", "v"), ("least", "v"), ("greatest", "v")):
            query = Sessions(A, [], 3, [worth])
            self.assert_all_apart(query, *[[*rows, mark(time)] for time in (2, 3, 4, 5, 6)])
        for worth in (("first",), ("last",)):
            query = Sessions(A, [], 3, [worth])
            self.assert_all_apart(query, *[[*rows, mark(time)] for time in (2, 3, 6)])

    def test_rows_and_kept_events(self):
        query = Sessions(A, ["k"], 3, [("count",)])
        low = mark(7)
        self.assert_all_apart(query, [low], [event(5), low], [event(6), low], [event(5), event(6), low],
                              [event(6, k=1), low], [event(8), low], [event(6), event(8), low],
                              [event(7), event(8), low])
        self.assert_all_apart(query, [event(6), event(7), event(9)], [event(6), event(8), event(9)],
                              [event(6), event(8, 1), event(9)])


class PairsTest(ApartCase):
    def test_the_mark_alone(self):
        for mode, reach in (("near", 0), ("near", 3), ("behind", 1), ("behind", 3)):
            query = Pairs(A, B, [("k", "k")], mode, reach, ([], []))
            self.assert_all_apart(query, [], [mark(1)], [mark(2)], [mark(9)])
            self.assert_all_apart(query, [event(9), other(10)], [event(9), other(10), mark(8)],
                                  [event(9), other(10), mark(9)])

    def test_rows_behind_the_mark(self):
        low = mark(5)
        for mode in ("near", "behind"):
            query = Pairs(A, B, [("k", "k")], mode, 3, (["v"], []))
            rows = [[low], [event(2), low], [event(3), low], [event(2, v=1), low], [event(2, k=1), low],
                    [event(2), event(2, 1), low], [event(2), event(3), low], [event(2), event(4), low]]
            if mode == "near":
                rows += [[other(2), low], [other(3), low], [other(2), other(2, 1), low], [other(2), event(2), low]]
            self.assert_all_apart(query, *rows)

    def test_kept_events(self):
        for mode, reach in (("near", 0), ("near", 3), ("behind", 1), ("behind", 3)):
            query = Pairs(A, B, [("k", "k")], mode, reach, ([], []))
            self.assert_all_apart(query, [], [event(4)], [event(4, 1)], [event(4), event(4, 1)], [other(4)],
                                  [other(4, 1)], [event(4, k=1)], [event(4), other(4)], [event(4, 1), other(4)])

    def test_the_second_side_at_the_mark(self):
        query = Pairs(A, B, [], "behind", 3, ([], []))
        self.assert_all_apart(query, [event(2), mark(4)], [event(2), other(4), mark(4)],
                              [event(2), other(4, 1), mark(4)], [event(2), other(5), mark(4)])


class LonelyTest(ApartCase):
    def test_the_live_time_alone(self):
        query = Lonely(A, C, [], 3, ["v"])
        self.assert_all_apart(query, [], [mark(1)], [tick(5), mark(2)], [tick(5), mark(1)])
        keyed = Lonely(side(k=[(0, 1)]), B, [("k", "k")], 3, [])
        covered = [other(4), other(4, k=1)]
        self.assert_all_apart(keyed, [*covered, mark(0)], [*covered, mark(1)], [*covered, mark(5)])
        waits = [event(2), other(7), other(7, k=1)]
        self.assert_all_apart(keyed, *[[*waits, mark(time)] for time in (3, 4, 5, 6)])

    def test_what_waits(self):
        query = Lonely(A, B, [("k", "k")], 3, ["v"])
        low = mark(5)
        self.assert_all_apart(query, [low], [event(2), low], [event(3), low], [event(2, v=1), low],
                              [event(2, k=1), low], [event(2), event(2, 1), low], [event(5), low], [event(5, 1), low])

    def test_covered_times(self):
        query = Lonely(A, B, [("k", "k")], 3, ["v"])
        low = mark(5)
        self.assert_all_apart(query, [low], [other(6), low], [other(7), low], [other(9), low], [other(6, k=1), low],
                              [other(6), other(9), low], [other(6), other(10), low], [other(7), other(10), low])

    def test_events_that_nothing_can_follow(self):
        for where in ({"k": [(0, 5)]}, {"x": []}):
            query = Lonely(A, Side(KINDS, "b", where), [("k", "k")], 3, [])
            self.assert_all_apart(query, [], [event(4, k=6)], [event(4, 1, k=6)], [event(4, k=7)], [mark(3)],
                                  [mark(4)], [event(4, k=6), mark(4)])


if __name__ == "__main__":
    unittest.main()
