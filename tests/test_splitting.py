"""[35], [36] Many machines of one query: keys that part what comes in, and keys that move."""

import random
import unittest
from collections import Counter

from streamsure.errors import BadLetter
from streamsure.fallerrors import BadPlace
from streamsure.language import read_book
from streamsure.machines import is_seen, run, start, step
from streamsure.queries import Blocks, Each, Lonely, Pairs, Sessions, Side, Windows
from streamsure.sets import EVERYTHING
from streamsure.splitting import Split, key_of, mark_of, moved_key, split_run, split_start, split_step, together
from tests import plain
from tests.draws import KINDS, SHAPES, draw_event, draw_letters, draw_narrow, draw_narrow_letters
from tests.draws import draw_query, letters_of

A = Side(KINDS, "a", {})
B = Side(KINDS, "b", {})
END = ("end",)


def plain_key(query, event):
    if isinstance(query, Each):
        return event
    if isinstance(query, (Pairs, Lonely)):
        side = query.first if event[0] == query.first.kind else query.second
        return plain.named(side, [pair[side is query.second] for pair in query.by], event)
    return plain.named(query.side, query.by, event)


def is_let(query, event):
    sides = [getattr(query, name) for name in ("side", "first", "second") if hasattr(query, name)]
    return any(plain.is_let(side, event) for side in sides)


def keys_in(query, letters):
    return sorted({plain_key(query, row[1]) for row in letters if row[0] == "event" and is_let(query, row[1])})


def draw_split(draw, query, letters, many):
    """So many machines, about half of the keys told."""
    return Split(many, {key: draw.randrange(many) for key in keys_in(query, letters) if draw.random() < 0.5})


def draw_case(draw, number):
    """A query and letters, by turns of all kinds, such that live times are lifted often, and that tell much."""
    if number % 3 == 0:
        query = draw_narrow(draw)
        return query, draw_narrow_letters(draw, query, draw.randint(1, 14), 8)
    if number % 3 == 1:
        return draw_query(draw, SHAPES[number // 3 % len(SHAPES)]), draw_letters(draw, draw.randint(1, 14), 6, 0.03)
    query = draw_query(draw, SHAPES[number // 3 % len(SHAPES)])
    for side in [getattr(query, name) for name in ("side", "first", "second") if hasattr(query, name)]:
        side.sets = tuple(one if draw.random() < 0.2 else EVERYTHING for one in side.sets)
    letters = []
    for _ in range(draw.randint(1, 20)):
        event = draw_event(draw, 6)
        few = (*event[:3], *[draw.choice((0, 1)) for _ in event[3:]])
        letters.append(("event", few) if draw.random() < 0.8 else ("mark", few[1]))
    return query, letters


class KeyTest(unittest.TestCase):
    def test_shapes_of_one_side(self):
        event = ("a", 4, 9, 1, 2, 3)
        for by, key in (((), ()), (("k",), (1,)), (("w", "k"), (3, 1)), (["v"], (2,))):
            self.assertEqual(key_of(Windows(A, by, 4, 2, []), event), key)
            self.assertEqual(key_of(Blocks(A, by, 4, []), event), key)
            self.assertEqual(key_of(Sessions(A, by, 4, []), event), key)
        self.assertEqual(key_of(Each(A, ["k"]), event), event)

    def test_shapes_of_two_sides(self):
        one, other = ("a", 4, 9, 1, 2, 3), ("b", 5, 7, 8, 6)
        for on, key, other_key in (
            ((), (), ()), ((("k", "k"),), (1,), (8,)), ((("w", "k"),), (3,), (8,)),
            ((("v", "x"), ("k", "k")), (2, 1), (6, 8)),
        ):
            for query in (Pairs(A, B, on, "near", 2, ([], [])), Lonely(A, B, on, 2, [])):
                self.assertEqual(key_of(query, one), key)
                self.assertEqual(key_of(query, other), other_key)

    def test_drawn_events_let_through_or_not(self):
        draw = random.Random(350)
        for number in range(600):
            query, event = draw_query(draw, SHAPES[number % len(SHAPES)]), draw_event(draw, 6)
            if is_let(query, event):
                self.assertEqual(key_of(query, event), plain_key(query, event))


class SplitTest(unittest.TestCase):
    def test_attributes(self):
        told = {(1,): 2, (2,): 0}
        split = Split(3, told)
        self.assertEqual((split.many, split.told), (3, {(1,): 2, (2,): 0}))
        self.assertEqual(told, {(1,): 2, (2,): 0})

    def test_told_keys_go_where_they_are_told(self):
        split = Split(5, {(1,): 4, (): 2, ("a", 1, 0): 3, (10 ** 40,): 0})
        for key, machine in (((1,), 4), ((), 2), (("a", 1, 0), 3), ((10 ** 40,), 0)):
            self.assertEqual(split.machine_of(key), machine)

    def test_others_hang_on_the_key_alone(self):
        draw = random.Random(351)
        for _ in range(300):
            key = tuple(draw.choice((draw.randint(-9, 9), draw.randint(-10 ** 30, 10 ** 30)))
                        for _ in range(draw.randint(0, 3)))
            key = draw.choice((key, ("sale", 3, *key)))
            many = draw.randint(1, 5)
            found = Split(many, {}).machine_of(key)
            self.assertIn(found, range(many))
            for told in ({}, {(99, 99): 0}, {(*key, 0): many - 1}):
                self.assertEqual(Split(many, told).machine_of(tuple(list(key))), found)

    def test_many_keys_go_to_more_than_one_machine(self):
        for many in range(2, 6):
            split = Split(many, {})
            self.assertEqual({split.machine_of((key,)) for key in range(50)}, set(range(many)))

    def test_start(self):
        draw = random.Random(352)
        for shape in SHAPES:
            query = draw_query(draw, shape)
            for many in (1, 2, 5):
                self.assertEqual(split_start(query, Split(many, {})), (start(query),) * many)

    def test_one_event_goes_to_one_machine(self):
        query = Each(A, ["v"])
        event, other = ("a", 1, 0, 1, 2, 3), ("a", 1, 0, 4, 4, 4)
        split = Split(3, {event: 2, other: 0})
        states, told = split_step(query, split, split_start(query, split), ("event", event))
        self.assertEqual((states, told), (((0, ()), (0, ()), (0, (event,))), ((), (), ((2,),))))
        states, told = split_step(query, split, states, ("event", other))
        self.assertEqual((states, told), (((0, (other,)), (0, ()), (0, (event,))), (((4,),), (), ())))
        states, told = split_step(query, split, states, ("mark", 7))
        self.assertEqual((states, told), (((7, ()),) * 3, ((), (), ())))
        states, told = split_step(query, split, states, END)
        self.assertEqual((states, told), (((),) * 3, ((), (), ())))

    def test_together(self):
        self.assertEqual(together(()), ())
        self.assertEqual(together(((), ())), ())
        self.assertEqual(together((((3,), (5,)), (), ((1,), (3,), (9,)))), ((1,), (3,), (3,), (5,), (9,)))


class TogetherTest(unittest.TestCase):
    def test_letter_by_letter_what_one_machine_tells(self):
        draw = random.Random(353)
        tells = Counter()
        for number in range(1200):
            query, letters = draw_case(draw, number)
            letters += [END] if draw.random() < 0.5 else []
            split = draw_split(draw, query, letters, draw.randint(1, 5))
            states, told = split_run(query, split, letters)
            self.assertEqual(len(states), split.many)
            self.assertTrue(all(len(row) == split.many for row in told))
            self.assertEqual(tuple(together(row) for row in told), run(query, letters)[1], (query.form(), letters))
            tells[query.__class__] += split.many > 1 and any(map(together, told))
        for shape in SHAPES:
            self.assertGreater(tells[shape], 5, shape)

    def test_each_machine_is_what_its_keys_make_of_it(self):
        draw = random.Random(354)
        for number in range(600):
            query, letters = draw_case(draw, number)
            split = draw_split(draw, query, letters, number % 5 + 1)
            states, told = split_run(query, split, letters)
            for machine in range(split.many):
                own = [row for row in letters if row[0] != "event" or not is_let(query, row[1])
                       or split.machine_of(plain_key(query, row[1])) == machine]
                state, rows = run(query, own)
                self.assertEqual(states[machine], state)
                self.assertEqual([row[machine] for row in told if row[machine]], [row for row in rows if row])

    def test_where_a_letter_goes(self):
        draw = random.Random(355)
        for number in range(600):
            query, letters = draw_case(draw, number)
            split = draw_split(draw, query, letters, number % 5 + 1)
            states = split_start(query, split)
            for letter in letters:
                ahead = states
                states, told = split_step(query, split, states, letter)
                self.assertEqual((type(states), type(told)), (tuple, tuple))
                for machine in range(split.many):
                    goes = letter[0] != "event"
                    if not goes and is_let(query, letter[1]):
                        goes = split.machine_of(plain_key(query, letter[1])) == machine
                    expected = step(query, ahead[machine], letter) if goes else (ahead[machine], ())
                    self.assertEqual((states[machine], told[machine]), expected)

    def test_one_machine_is_the_machine(self):
        draw = random.Random(356)
        for number in range(100):
            query, letters = draw_case(draw, number)
            states, told = split_run(query, Split(1, {}), letters)
            self.assertEqual((states[0], tuple(row[0] for row in told)), run(query, letters))

    def test_no_letters(self):
        query = Each(A, [])
        self.assertEqual(split_run(query, Split(3, {}), []), (((0, ()),) * 3, ()))

    def test_bad_letters(self):
        query = Each(A, [])
        good = [("event", ("a", 1, 0, 1, 2, 3)), ("mark", 2), END]
        for bad in (("mark", -1), ("mark", True), ("event", ("a", 1, 0)), ("event", ("d", 1, 0)), "end", None,
                    ("end", 1)):
            for place in range(4):
                with self.assertRaises(BadLetter) as caught:
                    split_run(query, Split(2, {}), [*good[:place], bad, *good[place:], 7])
                self.assertEqual(caught.exception.number, place)


class MarkTest(unittest.TestCase):
    def test_none_for_an_empty_query_and_behind_an_end(self):
        draw = random.Random(360)
        for number in range(200):
            query, letters = draw_case(draw, number)
            self.assertIsNone(mark_of(query, run(query, [*letters, END, ("mark", 9)])[0]))
            found = mark_of(query, run(query, letters)[0])
            self.assertEqual(found is None, query.is_empty() or END in letters)
        self.assertIsNone(mark_of(Each(Side(KINDS, "a", {"k": []}), []), start(Each(Side(KINDS, "a", {"k": []}), []))))

    def test_plain_ones(self):
        for text, letters, found in (
            ("each a", [], 0), ("each a", [("mark", 4), ("mark", 2)], 4),
            ("windows a length 10 step 10", [("event", ("a", 3, 0, 1))], 10),
            ("windows a length 10 step 10 worths last", [("event", ("a", 3, 0, 1))], 3),
            ("windows a length 10 step 10 worths count", [("event", ("a", 3, 0, 1))], 0),
            ("windows a by v length 10 step 10", [("event", ("a", 3, 0, 1))], 0),
        ):
            text = text + " tell" if text.startswith("each") else text
            query = read_book(f"kind a v\nquery q {text}").queries[0][1]
            self.assertEqual(mark_of(query, run(query, letters)[0]), found)

    def test_no_event_ahead_of_it_and_some_event_at_it(self):
        draw = random.Random(361)
        lifted = 0
        for number in range(800):
            query, letters = draw_case(draw, number)
            state, low = run(query, letters)[0], plain.stream(letters)[1]
            found = mark_of(query, state)
            if found is None:
                for event in [draw_event(draw, 9) for _ in range(9)]:
                    self.assertEqual(step(query, state, ("event", event)), (state, ()))
                continue
            self.assertGreaterEqual(found, low)
            lifted += found > low
            for time in range(low, found):
                for event in self.events(draw, time)[::7]:
                    self.assertEqual(step(query, state, ("event", event)), (state, ()))
            changing = [event for event in self.events(draw, found)
                        if is_seen(query, event) and step(query, state, ("event", event)) != (state, ())]
            self.assertTrue(changing, (query.form(), state))
        self.assertGreater(lifted, 20)

    def events(self, draw, time):
        found = [("a", time, number, k, v, w) for number in (-99, 99) for k in (-1, 0, 1, 2, 3, 5, 9)
                 for v in (-9, -1, 0, 1, 2, 3, 5, 9) for w in (-9, 0, 1, 2, 3, 5, 9)]
        found += [("b", time, 99, k, x) for k in (-9, -1, 0, 1, 2, 3, 5, 9) for x in (0, 1, 2, 3, 5, 9)]
        draw.shuffle(found)
        return found


class MovedTest(unittest.TestCase):
    def assert_bad(self, query, one, other, key):
        with self.assertRaises(BadPlace) as caught:
            moved_key(query, one, other, key)
        self.assertIs(caught.exception.place, key)

    def test_unlike_marks(self):
        draw = random.Random(362)
        seen = Counter()
        for number in range(500):
            query, letters = draw_case(draw, number)
            one, other = [run(query, rows)[0] for rows in (letters, [row for row in letters if row[0] == "mark"][:1])]
            key = draw.choice([(), (0,), *keys_in(query, letters)])
            marks = [mark_of(query, state) for state in (one, other)]
            if None in marks:
                self.assertEqual(moved_key(query, one, other, key), (one, other))
            elif marks[0] != marks[1]:
                self.assert_bad(query, one, other, key)
                self.assert_bad(query, other, one, key)
            seen[None in marks, marks[0] == marks[1]] += 1
        self.assertGreater(min(seen[True, True], seen[True, False] + 1, seen[False, True], seen[False, False]), 0)

    def test_behind_an_end_nothing_moves(self):
        query = Each(A, [])
        state, key = run(query, [("mark", 4)])[0], ("a", 5, 0, 1, 1, 1)
        for one, other in (((), state), (state, ()), ((), ())):
            self.assertEqual(moved_key(query, one, other, key), (one, other))

    def test_a_key_of_which_nothing_is_kept(self):
        draw = random.Random(363)
        for number in range(200):
            query, letters = draw_case(draw, number)
            one = run(query, letters)[0]
            other = run(query, [("mark", mark_of(query, one) or 0)])[0]
            self.assertEqual(moved_key(query, one, other, (77, 77, 77)), (one, other))

    def test_all_that_is_kept_of_each_shape(self):
        events = [("a", time, 0, key, 3, 4) for time in (2, 5, 6) for key in (0, 1)]
        twos = [("b", time, 0, key, 3) for time in (3, 6) for key in (0, 1)]
        letters = [*letters_of(events + twos), ("mark", 5)]
        for text in (
            "windows a by k length 4 step 2 worths count sum:v", "blocks a by k size 2 worths sum:v",
            "sessions a by k gap 3 worths count", "pairs a with b on k:k near 3 tell v / x",
            "pairs a with b on k:k behind 3 tell v / x", "lonely a without b on k:k for 3 tell v",
        ):
            query = read_book(f"kind a k v w\nkind b k x\nquery q {text}").queries[0][1]
            rows = {key: [row for row in letters if row[0] == "mark" or row[1][3] == key] for key in (0, 1)}
            one, other = run(query, letters)[0], run(query, [("mark", 5)])[0]
            self.assertEqual(moved_key(query, one, other, (1,)), (run(query, rows[0])[0], run(query, rows[1])[0]), text)
            one, other = moved_key(query, run(query, rows[0])[0], run(query, rows[1])[0], (0,))
            self.assertEqual((one, other), (run(query, [("mark", 5)])[0], run(query, letters)[0]), text)

    def test_the_live_time_is_lifted_where_all_keys_come_together(self):
        query = read_book("kind a k\nquery q windows a where k 0..1 by k length 10 step 10").queries[0][1]
        one = run(query, [("event", ("a", 3, 0, 0))])[0]
        other = run(query, [("event", ("a", 4, 0, 1))])[0]
        self.assertEqual((one[0], other[0]), (0, 0))
        self.assertEqual(moved_key(query, one, other, (0,)), (start(query), (10, (), ())))


class MovingTest(unittest.TestCase):
    """Keys that move amid a run, there and back, and all to one machine."""

    def setUp(self):
        self.moves = Counter()

    def run_with_moves(self, draw, query, letters, many, chance):
        keys = keys_in(query, letters) or [(5,)]
        home = {key: draw.randrange(many) for key in keys}
        states = split_start(query, Split(many, {}))
        for place, letter in enumerate(letters):
            states, told = split_step(query, Split(many, home), states, letter)
            self.assertEqual(together(told), run(query, letters[:place + 1])[1][-1], (query.form(), letters))
            while draw.random() < chance:
                key, machine = draw.choice(keys), draw.randrange(many)
                if machine != home[key]:
                    states = self.move(query, letters[:place + 1], states, home, key, machine)
        return states, home

    def move(self, query, letters, states, home, key, machine):
        """Move a key where its marks allow it, and look at both states."""
        one, other = states[home[key]], states[machine]
        marks = {mark_of(query, one), mark_of(query, other)}
        if None not in marks and len(marks) == 2:
            with self.assertRaises(BadPlace) as caught:
                moved_key(query, one, other, key)
            self.assertEqual(caught.exception.place, key)
            return states
        found = list(states)
        found[home[key]], found[machine] = moved_key(query, one, other, key)
        old, home[key] = home[key], machine
        self.moves[query.__class__] += (found[old], found[machine]) != (one, other)
        if marks == {plain.stream(letters)[1]}:
            for number in (old, machine):
                self.assertEqual(found[number], run(query, self.own(query, letters, home, number))[0])
        return tuple(found)

    def own(self, query, letters, home, machine):
        return [row for row in letters if row[0] != "event"
                or is_let(query, row[1]) and home[plain_key(query, row[1])] == machine]

    def test_nothing_changes_of_what_they_tell_together(self):
        draw = random.Random(364)
        for number in range(1500):
            query, letters = draw_case(draw, number)
            self.run_with_moves(draw, query, letters, number % 4 + 2, draw.choice((0.3, 0.6, 0.8)))
        for shape in SHAPES:
            self.assertGreater(self.moves[shape], 30, shape)

    def test_all_keys_to_one_machine(self):
        draw = random.Random(365)
        gathered = Counter()
        for number in range(800):
            query, letters = draw_case(draw, number)
            states, home = self.run_with_moves(draw, query, letters, number % 4 + 2, 0.4)
            for key in sorted(home):
                if home[key] != 0:
                    states = self.move(query, letters, states, home, key, 0)
            marks = {mark_of(query, state) for state in states[1:]}
            if set(home.values()) == {0} and marks == {plain.stream(letters)[1]}:
                gathered[query.__class__] += 1
                self.assertEqual(states[0], run(query, letters)[0])
                for state in states[1:]:
                    self.assertEqual(state, run(query, [row for row in letters if row[0] == "mark"])[0])
        for shape in SHAPES:
            self.assertGreater(gathered[shape], 5, shape)


if __name__ == "__main__":
    unittest.main()
