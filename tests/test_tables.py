"""[20] Finite tables."""

import itertools
import random
import unittest

from streamsure.errors import BadLetter, NotFinite, TooMany
from streamsure.machines import is_seen, run, start, step
from streamsure.queries import Blocks, Each, Lonely, Pairs, Sessions, Side, Windows
from streamsure.tables import Table, is_finite, run_table, table_of
from tests.draws import KINDS, SHAPES, draw_query

B = Side(KINDS, "b", {})
SMALL = ([(0, 0)], [(0, 1)], [(2, 2)], [(-1, -1), (1, 1)], [(0, 2)])
END = ("end",)


def side(**where):
    return Side(KINDS, "a", where)


def event(time, k=0, v=0, w=0, number=0):
    return ("event", ("a", time, number, k, v, w))


def mark(time):
    return ("mark", time)


def draw_finite(draw):
    one = side(**{field: draw.choice(SMALL) for field in ("k", "v", "w")})
    by = draw.choice(((), (), ("k",), ("k", "w")))
    length = draw.randint(1, 4)
    worths = []
    for _ in range(draw.choice((0, 1, 1, 2))):
        field = draw.choice([name for name in ("v", "w") if name not in by])
        word = draw.choice(("least", "greatest", "unlike", "atleast", "sum"))
        if word == "atleast":
            worths.append((word, 1))
        elif word != "sum" or one.set_of(field) == ((0, 0),):
            worths.append((word, field))
    return Windows(one, by, length, draw.randint(1, length), worths)


def earlier(query, state):
    """The state with all times less by a multiple of the step."""
    shift = state[0] // query.step * query.step
    rows = tuple((key, begin - shift, worths) for key, begin, worths in state[1])
    return (state[0] - shift, rows, state[2])


def count_states(query, ahead, most):
    """How many states letters lead to, by trying all of them; None for more than most."""
    sets = [query.side.set_of(field) for field in query.side.fields]
    numbers = [[n for low, high in one for n in range(low, high + 1)] for one in sets]
    seen = {earlier(query, start(query))}
    left = list(seen)
    while left:
        state = left.pop()
        live = state[0]
        letters = [mark(live + more) for more in range(1, query.length + ahead + query.step + 2)]
        letters += [("event", ("a", time, 0, *fields)) for time in range(live, live + ahead + 1)
                    for fields in itertools.product(*numbers)]
        for letter in letters:
            found = earlier(query, step(query, state, letter)[0])
            if found not in seen:
                seen.add(found)
                left.append(found)
        if len(seen) > most:
            return None
    return len(seen)


class FiniteTest(unittest.TestCase):
    def windows(self, worths, by=("k",), **where):
        return Windows(side(**{"k": [(0, 3)], "v": [(0, 5)], **where}), by, 4, 2, worths)

    def test_finite_ones(self):
        zero = {"w": [(0, 0)]}
        for worths in ([], [("least", "v")], [("greatest", "v")], [("unlike", "v")], [("atleast", 1)],
                       [("sum", "w")], [("least", "v"), ("sum", "w"), ("atleast", 1), ("greatest", "v")]):
            self.assertIs(is_finite(self.windows(worths, **zero)), True)
            self.assertIs(is_finite(self.windows(worths, (), **zero)), True)
        # other fields may be anything, also where nothing asks for the key
        self.assertIs(is_finite(self.windows([("least", "v")])), True)
        self.assertIs(is_finite(Windows(side(), [], 4, 2, [("atleast", 1)])), True)

    def test_other_shapes(self):
        draw = random.Random(1)
        for shape in SHAPES:
            if shape is not Windows:
                for _ in range(10):
                    self.assert_not_finite(draw_query(draw, shape))
        narrow = side(k=[(0, 1)], v=[(0, 1)], w=[(0, 1)])
        for query in (Each(narrow, []), Blocks(narrow, [], 1, []), Sessions(narrow, [], 1, []),
                      Pairs(narrow, B, [], "near", 0, ([], [])), Lonely(narrow, B, [], 1, [])):
            self.assert_not_finite(query)

    def assert_not_finite(self, query):
        self.assertIs(is_finite(query), False)
        with self.assertRaises(NotFinite):
            table_of(query, 0, 1)

    def test_an_empty_side(self):
        self.assert_not_finite(self.windows([("least", "v")], w=[]))
        self.assert_not_finite(self.windows([("least", "v")], k=[(3, 2)]))

    def test_other_worths(self):
        for worth in (("count",), ("first",), ("last",), ("atleast", 2), ("atleast", 5), ("sum", "v")):
            self.assert_not_finite(self.windows([worth]))
            self.assert_not_finite(self.windows([("least", "v"), worth]))

    def test_a_sum_of_a_field_that_may_be_more_than_0(self):
        self.assert_not_finite(self.windows([("sum", "w")], w=[(0, 1)]))
        self.assert_not_finite(self.windows([("sum", "w")], w=[(1, 1)]))
        self.assert_not_finite(self.windows([("sum", "w")], w=[(-1, 0)]))

    def test_a_field_without_an_end(self):
        for pairs in ([(None, 3)], [(3, None)], [(None, None)]):
            self.assert_not_finite(self.windows([("least", "v")], k=pairs))
            for word in ("least", "greatest", "unlike"):
                self.assert_not_finite(self.windows([(word, "v")], v=pairs))


class TableTest(unittest.TestCase):
    def test_many_and_too_many_against_a_count(self):
        draw = random.Random(20)
        counts = set()
        for _ in range(120):
            query, ahead = draw_finite(draw), draw.randint(0, 4)
            many = count_states(query, ahead, 120)
            if many is None:
                self.assert_too_many(query, ahead, 120)
                continue
            counts.add(many)
            for most in (many, many + 1, 10 ** 9):
                table = table_of(query, ahead, most)
                self.assertIsInstance(table, Table)
                self.assertEqual(table.many, many, (query.form(), ahead))
            if many > 1:
                self.assert_too_many(query, ahead, many - 1)
        self.assertGreater(len(counts), 10)

    def assert_too_many(self, query, ahead, most):
        with self.assertRaises(TooMany) as caught:
            table_of(query, ahead, most)
        self.assertEqual(caught.exception.most, most)

    def test_told_counts(self):
        # nothing waits, no other key: each tick of the step is a state, told or not told
        query = Windows(side(), [], 1, 1, [("atleast", 1)])
        self.assertEqual(table_of(query, 0, 1).many, 1)
        self.assertEqual(table_of(query, 1, 9).many, 2)
        query = Windows(side(), [], 3, 3, [])
        self.assertEqual(table_of(query, 0, 9).many, 3)

    def test_not_finite_ahead_of_too_many(self):
        with self.assertRaises(NotFinite):
            table_of(Windows(side(), [], 9, 1, [("least", "v")]), 9, 1)

    def test_sets_too_large_to_be_gone_through(self):
        huge = [(0, 10 ** 12)]
        self.assert_too_many(Windows(side(k=huge), ["k"], 2, 2, []), 0, 50)
        self.assert_too_many(Windows(side(v=huge), [], 2, 2, [("unlike", "v")]), 0, 50)
        self.assert_too_many(Windows(side(), [], 10 ** 9, 10 ** 9, []), 3, 50)
        self.assert_too_many(Windows(side(), [], 2, 2, []), 10 ** 9, 50)


class RunTableTest(unittest.TestCase):
    def draw_letters(self, draw, query, ahead):
        """Letters whose events come in time: late ones, doubled ones, some that no side lets through."""
        letters, state = [], start(query)
        for _ in range(draw.randint(0, 14)):
            live = state[0] if state else 0
            chance = draw.random()
            if chance < 0.2:
                letters.append(mark(max(0, live + draw.choice((-2, 0, 1, 1, 2, 5)))))
            elif chance < 0.24:
                letters.append(END)
            elif chance < 0.3:
                letters.append(("event", ("b", draw.randint(0, 99), 0, 0, 0)))
            elif letters and chance < 0.4:
                letters.append(draw.choice(letters))
            else:
                time = max(0, live + draw.randint(-2, ahead))
                numbers = [draw.choice((-1, 0, 1, 2)) for _ in range(3)]
                letters.append(event(time, *numbers, number=draw.randint(0, 1)))
            state = step(query, state, letters[-1])[0]
        return letters

    def test_it_tells_what_run_tells(self):
        draw = random.Random(21)
        told = 0
        for _ in range(120):
            query, ahead = draw_finite(draw), draw.randint(0, 3)
            try:
                table = table_of(query, ahead, 200)
            except TooMany:
                continue
            for _ in range(10):
                letters = self.draw_letters(draw, query, ahead)
                expected = run(query, letters)[1]
                self.assertEqual(run_table(table, letters), expected, (query.form(), letters))
                self.assertEqual(run_table(table, tuple(letters)), expected)
                told += sum(len(answers) for answers in expected)
        self.assertGreater(told, 100)

    def test_marks_up_to_10000(self):
        query = Windows(side(v=[(0, 2)]), [], 7, 3, [("greatest", "v"), ("unlike", "v")])
        table = table_of(query, 2, 5000)
        letters = [event(0, 1, 2), mark(5000), event(5001, 0, 1), event(4999), event(5002, 1, 0),
                   mark(5006), event(5007, 0, 2), mark(10000), event(10002, 0, 1), END, event(1)]
        self.assertEqual(run_table(table, letters), run(query, letters)[1])

    def test_a_mark_at_which_several_windows_end(self):
        query = Windows(side(k=[(0, 1)], v=[(0, 1)]), ["k"], 2, 2, [("greatest", "v")])
        letters = [event(0, 1), event(2, 0), event(2, 1), mark(1), event(4, 0), mark(6), END]
        expected = run(query, letters)[1]
        self.assertEqual(len(expected[5]), 4)
        self.assertEqual(run_table(table_of(query, 3, 5000), letters), expected)

    def assert_bad(self, table, number, letters):
        with self.assertRaises(BadLetter) as caught:
            run_table(table, letters)
        self.assertEqual(caught.exception.number, number)

    def test_the_first_event_that_comes_too_far_ahead(self):
        query = Windows(side(v=[(0, 2)]), [], 4, 4, [("greatest", "v")])
        for ahead in (0, 1, 5):
            table = table_of(query, ahead, 500)
            self.assert_bad(table, 0, [event(ahead + 1)])
            self.assert_bad(table, 1, [event(ahead), event(ahead + 1)])
            self.assert_bad(table, 3, [event(ahead), event(ahead), mark(0), event(ahead + 1), event(99)])
            self.assert_bad(table, 2, [mark(7), event(7 + ahead), event(8 + ahead)])
            self.assertEqual(run_table(table, [event(ahead), mark(1), event(ahead + 1)]), ((), (), ()))

    def test_beyond_the_live_time_and_not_the_mark(self):
        query = Windows(side(v=[(0, 2)]), [], 4, 4, [("greatest", "v")])
        table = table_of(query, 1, 500)
        # the only window is told, so the live time is where the next one begins
        letters = [event(0, v=2), event(5)]
        self.assertEqual(run(query, letters)[0][0], 4)
        self.assertEqual(run_table(table, letters), run(query, letters)[1])
        self.assert_bad(table, 1, [event(0, v=2), event(6)])

    def test_events_that_count_for_nothing(self):
        query = Windows(side(k=[(0, 1)], v=[(0, 2)]), ["k"], 4, 4, [("greatest", "v")])
        table = table_of(query, 0, 500)
        unseen = [event(50, 2), event(50, 0, 3), ("event", ("b", 50, 0, 0, 0))]
        self.assertEqual(run_table(table, [*unseen, event(0)]), ((),) * 4)
        self.assert_bad(table, 3, [*unseen, event(1)])
        self.assertEqual(run_table(table, [event(0), END, event(50), END]), run(query, [event(0), END] * 2)[1])
        self.assert_bad(table, 2, [event(0), mark(3), event(5), None])

    def test_things_that_are_no_letters(self):
        table = table_of(Windows(side(), [], 4, 4, []), 0, 500)
        for thing in (None, ("mark", -1), ("event", ("d", 0, 0)), ["end"], ("event", event(0))):
            self.assert_bad(table, 2, [mark(1), END, thing, thing])
            self.assert_bad(table, 0, [thing, event(50)])

    def test_every_event_is_seen_or_not(self):
        query = Windows(side(k=[(0, 1)]), [], 4, 4, [])
        self.assertEqual([is_seen(query, event(0, k)[1]) for k in (0, 1, 2)], [True, True, False])


if __name__ == "__main__":
    unittest.main()
