"""[18], [70] to [72] States: of what they are made, which are equal, the live time, how much is kept."""

import itertools
import random
import unittest
from collections import Counter

from streamsure.machines import run, start, step
from streamsure.queries import Blocks, Each, Kinds, Lonely, Pairs, Sessions, Side, Windows
from tests import plain
from tests.draws import KINDS, SHAPES, draw_event, draw_letters, draw_narrow, draw_narrow_letters
from tests.draws import draw_near, draw_query, letters_of

A = Side(KINDS, "a", {})
B = Side(KINDS, "b", {})
C = Side(KINDS, "c", {})
END = ("end",)


def event(time, number=0, k=0, v=0, w=0):
    return ("event", ("a", time, number, k, v, w))


def other(time, number=0, k=0, x=0):
    return ("event", ("b", time, number, k, x))


def tick(time, number=0):
    return ("event", ("c", time, number))


def mark(time):
    return ("mark", time)


def side(**where):
    return Side(KINDS, "a", where)


def told_sofar(told):
    return Counter(answer for answers in told for answer in answers)


def behind(query, state, letters):
    """What is told from a state on, letter by letter."""
    rows = []
    for letter in letters:
        state, told = step(query, state, letter)
        rows.append(told)
    return rows


class DrawnTest(unittest.TestCase):
    def test_states_are_tuples_of_integers_words_none_and_tuples(self):
        draw = random.Random(1)
        for number in range(300):
            query = draw_query(draw, SHAPES[number % len(SHAPES)])
            left = [run(query, draw_letters(draw, 9, 6, 0.02))[0]]
            self.assertIs(type(left[0]), tuple)
            while left:
                part = left.pop()
                self.assertIn(type(part), (tuple, int, str, type(None)))
                if type(part) is str:
                    self.assertRegex(part, "^[a-z]+$")
                left.extend(part if type(part) is tuple else ())

    def test_start_is_the_state_of_no_letters(self):
        draw = random.Random(2)
        for number in range(60):
            query = draw_query(draw, SHAPES[number % len(SHAPES)])
            self.assertEqual(run(query, []), (start(query), ()))
            if not query.is_empty():
                self.assertEqual(start(query)[0], 0)

    def test_the_stream_the_mark_and_the_end_alone_count(self):
        draw = random.Random(3)
        for number in range(900):
            query = draw_query(draw, SHAPES[number % len(SHAPES)])
            letters = draw_letters(draw, draw.randint(1, 10), 6, 0.01)
            state, told = run(query, letters)
            stream, low, over = plain.stream(letters)
            rows = letters_of(draw.sample(sorted(stream), len(stream)))
            for _ in range(3):
                # doublings, and events that no side lets through
                rows.insert(draw.randint(0, len(rows)), draw.choice([*rows, tick(draw.randint(0, 9)), mark(0)]))
            rows += [mark(draw.randint(0, low)), mark(low), mark(low), *letters[:2]][:3]
            rows += [END] if over else []
            again, retold = run(query, rows)
            if plain.stream(rows) == (stream, low, over):
                self.assertEqual(again, state, (query.form(), letters, rows))
                self.assertEqual(told_sofar(retold), told_sofar(told))

    def test_equal_states_tell_the_same_and_what_is_told_is_right(self):
        draw = random.Random(5)
        equal = Counter()
        for number in range(1500):
            query = draw_query(draw, SHAPES[number % len(SHAPES)])
            letters = draw_letters(draw, draw.randint(0, 8), 6)
            near = draw_near(draw, letters, 6)
            one, ones = run(query, letters)
            two, twos = run(query, near)
            if one != two:
                continue
            equal[query.__class__] += plain.stream(letters) != plain.stream(near)
            for _ in range(3):
                ending = draw_letters(draw, draw.randint(0, 6), 9, 0.05)
                first = plain.meaning(query, plain.stream(letters + ending)[0])
                second = plain.meaning(query, plain.stream(near + ending)[0])
                self.assertEqual(Counter(first) - told_sofar(ones), Counter(second) - told_sofar(twos),
                                 (query.form(), letters, near, ending))
        for shape in SHAPES:
            self.assertGreater(equal[shape], 20, shape)

    def test_ahead_of_the_live_time_events_and_marks_change_and_tell_nothing(self):
        draw = random.Random(6)
        lifted = Counter()
        for number in range(1500):
            query = draw_query(draw, SHAPES[number % len(SHAPES)])
            letters = draw_letters(draw, draw.randint(0, 10), 6)
            state = run(query, letters)[0]
            if query.is_empty():
                self.assertEqual(state, start(query))
                continue
            low = plain.stream(letters)[1]
            self.assertGreaterEqual(state[0], low)
            lifted[query.__class__] += state[0] > low
            for _ in range(8):
                drawn = draw_event(draw, 6)
                if drawn[1] < state[0]:
                    self.assertEqual(step(query, state, ("event", drawn)), (state, ()))
            for time in range(state[0] + 1):
                self.assertEqual(step(query, state, mark(time)), (state, ()))
        for shape in (Windows, Sessions, Lonely):
            self.assertGreater(lifted[shape], 0, shape)
        for shape in (Each, Blocks, Pairs):
            self.assertEqual(lifted[shape], 0, shape)

    def test_ahead_of_the_live_time_events_matter_for_no_ending(self):
        draw = random.Random(71)
        lifted = Counter()
        for _ in range(2500):
            query, top = draw_narrow(draw), draw.choice((4, 8))
            letters = draw_narrow_letters(draw, query, draw.randint(1, 12), top)
            (state, told), low = run(query, letters), plain.stream(letters)[1]
            extra = [letter for letter in draw_narrow_letters(draw, query, 12, top)
                     if letter[0] == "event" and low <= letter[1][1] < state[0]]
            if not extra:
                continue
            lifted[query.__class__] += 1
            self.assertEqual(run(query, letters + extra)[0], state)
            for _ in range(3):
                ending = draw_narrow_letters(draw, query, draw.randint(0, 6), top + 2)
                stands = plain.meaning(query, plain.stream(letters + ending)[0])
                with_extra = plain.meaning(query, plain.stream(letters + extra + ending)[0])
                self.assertEqual(with_extra, stands, (query.form(), letters, extra, ending))
                rest = behind(query, state, [*ending, END])
                self.assertEqual(told_sofar(told) + told_sofar(rest), Counter(stands))
        for shape in (Windows, Sessions, Lonely):
            self.assertGreater(lifted[shape], 20, shape)

    def test_at_the_live_time_some_event_changes_or_tells_something(self):
        draw = random.Random(7)
        for number in range(1200):
            query = draw_query(draw, SHAPES[number % len(SHAPES)], False)
            state = run(query, draw_letters(draw, draw.randint(0, 10), 6))[0]
            if query.is_empty():
                continue
            drawn = [("a", state[0], i, k, v, w) for i in (-99, 99) for k in (-1, 0, 1, 2, 5, 9)
                     for v in (-9, -1, 0, 1, 2, 3, 5, 9) for w in (-9, 0, 1, 2, 3, 5, 9)]
            drawn += [("b", state[0], 99, k, x) for k in (-9, -1, 0, 1, 2, 3, 5, 9) for x in (0, 1, 2, 3, 5, 9)]
            self.assertTrue(any(step(query, state, letter) != (state, ()) for letter in letters_of(drawn)),
                            (query.form(), state))

    def test_the_live_time_never_goes_back(self):
        draw = random.Random(8)
        for number in range(600):
            query = draw_query(draw, SHAPES[number % len(SHAPES)])
            state, live = start(query), 0
            for letter in draw_letters(draw, 12, 6):
                state = step(query, state, letter)[0]
                if state:
                    self.assertGreaterEqual(state[0], live)
                    live = state[0]


class SameStateCase(unittest.TestCase):
    def assert_same(self, query, *rows):
        states = [run(query, letters)[0] for letters in rows]
        for state in states[1:]:
            self.assertEqual(state, states[0])
        return states[0]

    def assert_unlike(self, query, *rows):
        states = [run(query, letters)[0] for letters in rows]
        self.assertEqual(len(set(states)), len(rows), states)


class OverTest(SameStateCase):
    def test_behind_an_end_all_is_one(self):
        draw = random.Random(9)
        for shape in SHAPES:
            query = draw_query(draw, shape, False)
            rows = [draw_letters(draw, 6, 6) + [END] + draw_letters(draw, 4, 6, 0.2) for _ in range(20)]
            self.assert_same(query, *rows)
            if not query.is_empty():
                self.assert_unlike(query, [], [END])

    def test_an_empty_query_has_one_state(self):
        for query in (Each(side(k=[]), []), Windows(side(k=[]), [], 1, 1, []), Blocks(side(w=[]), [], 1, []),
                      Lonely(side(k=[]), B, [], 1, []), Pairs(A, Side(KINDS, "b", {"x": []}), [], "near", 1, ([], []))):
            self.assert_same(query, [], [event(1)], [mark(3)], [END], [event(1), END, mark(2), other(4)])


class KeptTest(SameStateCase):
    def test_each_keeps_events_from_the_mark_on(self):
        query = Each(A, [])
        self.assert_same(query, [mark(3)], [event(2), mark(3)], [mark(3), event(2)])
        self.assert_unlike(query, [mark(3)], [event(3), mark(3)], [mark(3), event(3, 1)], [mark(4)])

    def test_a_sum_forgets_an_event_of_0_and_a_least_all_of_them(self):
        sums = Windows(A, [], 5, 5, [("sum", "v")])
        self.assert_same(sums, [event(1), event(2, v=3)], [event(2, v=3)])
        self.assert_unlike(sums, [event(1, v=3)], [event(2, v=3)], [event(1, 1, v=3)])
        least = Windows(A, [], 5, 5, [("least", "v")])
        self.assert_same(least, [event(1, v=3)], [event(2, v=3)], [event(2, 5, w=7, v=3)],
                         [event(2, v=3), event(1, v=4)])
        for worth in (("greatest", "v"), ("unlike", "v"), ("atleast", 1)):
            query = Windows(A, [], 5, 5, [worth])
            self.assert_same(query, [event(1, v=3)], [event(2, v=3)], [event(2, v=3), event(3, v=3)])

    def test_atleast_forgets_all_once_it_is_1(self):
        query = Windows(A, [], 5, 5, [("atleast", 2), ("last",)])
        last = event(4, 9)
        self.assert_same(query, [event(1), last], [event(2), last], [event(1), event(2), last])
        query = Windows(A, [], 5, 5, [("atleast", 3), ("last",)])
        self.assert_unlike(query, [event(1), last], [event(2), last], [event(1), event(2), last])

    def test_sessions_keep_what_counts(self):
        query = Sessions(A, [], 2, [("least", "v")])
        self.assert_same(query, [event(1), event(3), event(4)], [event(1), event(2), event(4), event(3)])
        count = Sessions(A, [], 2, [("count",)])
        self.assert_unlike(count, [event(1), event(2), event(4)], [event(1), event(3), event(4)])

    def test_blocks_keep_order_and_rest(self):
        query = Blocks(A, [], 3, [("unlike", "v")])
        self.assert_same(query, [event(1, v=2), event(2, v=3), mark(3)],
                         [event(1, v=2), event(2, 7, k=4, v=3), mark(3)])
        self.assert_unlike(query, [event(1), event(2, v=3), mark(3)], [event(1), event(2, v=4), mark(3)],
                           [event(1), event(2), mark(3)], [event(1, 1), event(2), mark(3)],
                           [event(1), event(2), event(2, 1), mark(3)], [event(1), event(2), mark(4)])

    def test_pairs_keep_key_time_and_what_is_told_counted(self):
        query = Pairs(A, B, [("k", "k")], "near", 4, (["v"], []))
        low = mark(5)
        self.assert_same(query, [event(3), low], [event(3, 9, w=7), low])
        self.assert_same(query, [low], [event(0), low], [other(0), low])
        self.assert_unlike(query, [event(3), low], [event(4), low], [event(3, v=1), low], [event(3, k=1), low],
                           [event(3), event(3, 1), low], [low], [other(3), low])

    def test_pairs_keep_nothing_whose_key_the_other_side_cannot_have(self):
        query = Pairs(side(k=[(0, 5)]), Side(KINDS, "b", {"k": [(3, 9)]}), [("k", "k")], "near", 4, ([], []))
        self.assert_same(query, [], [event(3, k=2)], [other(3, k=6)], [event(3, k=6)])
        self.assert_unlike(query, [], [event(3, k=3)], [other(3, k=5)])

    def test_behind_pairs_forget_the_second_side_at_the_mark(self):
        query = Pairs(A, B, [], "behind", 2, ([], []))
        self.assert_same(query, [mark(3)], [other(3), mark(3)], [mark(3), other(3)], [other(2), mark(3)])
        self.assert_unlike(query, [mark(3)], [other(4), mark(3)], [event(2), mark(3)],
                           [event(2), other(3), mark(3)])
        self.assert_unlike(query, [event(3), mark(3)], [event(3), other(4), mark(3)])

    def test_lonely_events_keep_what_waits_and_covered_times(self):
        query = Lonely(A, B, [("k", "k")], 3, ["v"])
        low = mark(5)
        self.assert_same(query, [event(3), low], [event(3, 9, w=7), low])
        self.assert_same(query, [low], [event(1), low], [event(3), other(5), low], [other(5), low])
        self.assert_same(query, [other(6), low], [other(6), event(5), low], [event(4), other(6, 7, x=4), low])
        self.assert_same(query, [other(7), low, other(8)], [other(6), other(8), low])
        self.assert_unlike(query, [event(3), low], [event(4), low], [event(3, v=1), low], [event(3, k=1), low],
                           [event(3), event(3, 1), low], [low], [other(6), low], [other(7), low],
                           [other(6, k=1), low])

    def test_lonely_events_keep_nothing_of_keys_that_the_first_side_cannot_have(self):
        query = Lonely(side(k=[(0, 5)]), B, [("k", "k")], 3, ["v"])
        self.assert_same(query, [], [other(4, k=6)])


class OrderTest(SameStateCase):
    """Whatever comes first, the state is the same."""

    def assert_any_order(self, query, events, low=0):
        rows = [[*order, mark(low)] for order in itertools.permutations(events)]
        self.assert_same(query, *rows, *[[mark(0), *row[:-1], *row] for row in rows])

    def test_events_ascend(self):
        events = [event(4, 0, 1, 5), event(4, -1, 2, 3), event(3, 0, 1, 5), event(5, 0, 0, 2)]
        seconds = [other(4, 0, 1), other(5, 0, 2), other(6, -3, 2)]
        for by in ((), ("k",)):
            on = [(name, name) for name in by]
            worths = [("count",), ("sum", "w"), ("unlike", "w")]
            for low in (0, 4, 5):
                self.assert_any_order(Each(A, []), events, low)
                self.assert_any_order(Windows(A, by, 7, 3, worths), events, low)
                self.assert_any_order(Blocks(A, by, 3, [("sum", "v")]), events, low)
                self.assert_any_order(Sessions(A, by, 1, [("count",)]), events, low)
                for mode in ("near", "behind"):
                    self.assert_any_order(Pairs(A, B, on, mode, 2, (["v"], [])), [*events[:3], *seconds[:2]], low)
                self.assert_any_order(Lonely(A, B, on, 2, ["v"]), [*events[:2], *seconds], low)

    def test_unlike_numbers_ascend(self):
        query = Windows(A, [], 9, 9, [("unlike", "v")])
        rows = [event(1, number, v=v) for number, v in enumerate((8, 0, -1, 16))]
        self.assert_any_order(query, rows)


class LiveTimeTest(SameStateCase):
    def assert_live(self, query, live, *rows):
        self.assertEqual(self.assert_same(query, *rows)[0], live)

    def test_a_told_window_of_the_only_key(self):
        query = Windows(side(v=[(0, 9)]), [], 10, 10, [("least", "v")])
        self.assert_live(query, 10, [event(3)], [event(3), mark(7)], [mark(10)], [mark(4), event(7), mark(9)])
        self.assert_live(query, 0, [event(13)])
        self.assert_live(query, 20, [event(13), mark(10)], [event(13), event(2)], [mark(20)])
        self.assert_live(query, 3, [mark(3), event(3, v=1)])

    def test_overlapping_windows_must_all_be_told(self):
        query = Windows(side(v=[(0, 9)]), [], 7, 5, [("least", "v")])
        self.assert_live(query, 5, [event(3), mark(2)], [event(4), mark(4)])
        self.assert_live(query, 0, [event(5)], [event(5), event(5, 1)])
        # the windows -5 and 0 hold tick 1, the windows 0 and 5 ticks 5 and 6
        self.assert_live(query, 10, [event(1), event(6)], [mark(6), event(6)])

    def test_all_keys_of_a_finite_set(self):
        query = Windows(side(k=[(0, 1)]), ["k"], 4, 4, [])
        self.assert_live(query, 0, [event(3)])
        self.assert_live(query, 4, [event(3), event(0, k=1)], [mark(4)])
        self.assert_live(Windows(A, ["k"], 4, 4, []), 2, [event(3), event(2, k=1), mark(2)])
        least = Windows(side(k=[(0, 1)], v=[(0, 9)]), ["k"], 4, 4, [("least", "v")])
        self.assert_live(least, 0, [event(3), event(0, k=1, v=1)], [event(3), event(1, k=1, v=1)])
        self.assert_live(least, 4, [event(3), event(0, k=1)], [mark(4)])
        last = Windows(side(k=[(0, 1)]), ["k"], 10, 10, [("last",)])
        self.assert_live(last, 4, [event(6), event(4, k=1)], [event(6), event(4, k=1), mark(4)])

    def test_last_lives_from_its_time_on_and_first_up_to_it(self):
        last = Windows(A, [], 10, 10, [("last",)])
        self.assert_live(last, 6, [event(6)], [event(6), mark(5)], [event(4), event(6), mark(1)])
        first = Windows(A, [], 10, 10, [("first",)])
        self.assert_live(first, 2, [event(6), mark(2)])
        self.assert_live(first, 10, [event(6), mark(7)], [mark(10)])
        both = Windows(A, [], 10, 10, [("first",), ("last",)])
        self.assert_live(both, 6, [event(3), event(6), mark(4)], [event(3), event(6), mark(5)])
        self.assert_live(both, 3, [event(3), event(6), mark(3)])

    def test_within_a_session_of_the_only_key(self):
        query = Sessions(A, [], 3, [])
        self.assert_live(query, 6, [event(3), event(5), mark(3)], [event(3), event(5), mark(6)])
        self.assert_live(query, 2, [event(3), event(5), mark(2)])
        # at its ends an event may be ahead of the first one and behind the last one
        self.assert_live(Sessions(A, [], 3, [("last",)]), 5, [event(3), event(5), mark(3)])
        self.assert_live(Sessions(A, [], 3, [("first",)]), 3, [event(3), event(5), mark(3)])
        self.assert_live(Sessions(A, [], 3, [("first",)]), 6, [event(3), event(5), mark(4)])
        self.assert_live(Sessions(A, [], 3, [("count",)]), 3, [event(3), event(5), mark(3)])
        keyed = Sessions(side(k=[(0, 1)], v=[(0, 9)]), ["k"], 3, [("least", "v")])
        rows = [event(3), event(6), event(2, k=1), event(5, k=1)]
        self.assert_live(keyed, 6, [*rows, mark(4)], [*rows, mark(6)])
        self.assert_live(keyed, 5, [*rows[:3], event(4, k=1), mark(4)], [*rows[:3], event(4, k=1), mark(5)])
        self.assert_live(keyed, 4, [event(3), event(6), event(2, k=1, v=1), event(5, k=1, v=1), mark(4)])
        least = Sessions(side(v=[(0, 9)]), [], 3, [("least", "v")])
        self.assert_live(least, 6, [event(3), event(5), mark(4)])
        self.assert_live(least, 4, [event(3, v=1), event(5, v=1), mark(4)])

    def test_covered_times_of_all_keys(self):
        query = Lonely(A, C, [], 4, [])
        self.assert_live(query, 5, [tick(5), mark(1)], [mark(5)], [tick(5), tick(3), mark(2)])
        self.assert_live(query, 0, [tick(5)])
        self.assert_live(query, 9, [tick(5), tick(9), mark(1)], [mark(9)])
        # one that waits behind the mark can be followed at the mark
        self.assert_live(query, 2, [tick(6), event(1), mark(2)])
        keyed = Lonely(side(k=[(0, 1)]), B, [("k", "k")], 4, [])
        self.assert_live(keyed, 1, [other(5), mark(1)])
        self.assert_live(keyed, 0, [other(5), other(3, k=1)])
        self.assert_live(keyed, 3, [other(5), other(3, k=1), mark(1)], [other(5), mark(3)])
        self.assert_live(keyed, 3, [other(3), other(5, k=1), mark(2)], [other(5, k=1), mark(3)])
        some = Lonely(side(k=[(0, 1)]), Side(KINDS, "b", {"k": [(0, 0)]}), [("k", "k")], 4, [])
        self.assert_live(some, 1, [other(5), mark(1)])
        self.assert_live(Lonely(A, B, [("k", "k")], 4, []), 1, [other(5), mark(1)])


class BoundsTest(unittest.TestCase):
    """[71], [72], by the parts that states are made of."""

    def seen(self, query, letters):
        stream, low, _ = plain.stream(letters)
        sides = [getattr(query, name) for name in ("side", "first", "second") if hasattr(query, name)]
        return [row for row in stream if any(plain.is_let(one, row) for one in sides)], low

    def test_what_is_kept(self):
        draw = random.Random(72)
        for number in range(1200):
            query = draw_query(draw, SHAPES[number % len(SHAPES)], False)
            letters = draw_letters(draw, 12, 8)
            state = run(query, letters)[0]
            if not state:
                continue
            seen, low = self.seen(query, letters)
            live, kept = state[0], state[-1]
            self.assertLessEqual(set(kept), {row for row in seen if row[1] >= low})
            self.assertTrue(all(row[1] >= live for row in kept))
            if isinstance(query, Windows):
                most = (query.length - 1) // query.step + 1
                many = sum(row[1] + query.length > low for row in seen)
                self.assertLessEqual(len(state[1]), most * many)
                self.assertTrue(all(row[1] + query.length > live for row in state[1]))
            elif isinstance(query, Sessions):
                self.assertLessEqual(len(state[1]), sum(row[1] + query.gap >= low for row in seen))
                self.assertTrue(all(row[2] + query.gap >= live for row in state[1]))
            elif isinstance(query, Blocks):
                self.assertLessEqual(len(state[1]), len({plain.named(query.side, query.by, row) for row in seen}))
            elif isinstance(query, (Pairs, Lonely)):
                rows = state[1] if isinstance(query, Lonely) else [*state[1], *state[2]]
                self.assertTrue(all(row[1] + query.reach >= live for row in rows))
                self.assertLessEqual(len(rows), sum(row[1] + query.reach >= low for row in seen))
            if isinstance(query, Lonely):
                covers = sum(len(times) for key, times in state[2])
                self.assertLessEqual(covers, sum(plain.is_let(query.second, row) and row[1] > low for row in seen))


class OtherKindsTest(unittest.TestCase):
    def test_names_of_kinds_as_they_are_told(self):
        kinds = Kinds({"sale": ["shop"]})
        query = Each(Side(kinds, "sale", {}), ["shop"])
        self.assertEqual(behind(query, start(query), [("event", ("sale", 0, 0, 4))]), [((4,),)])


if __name__ == "__main__":
    unittest.main()
