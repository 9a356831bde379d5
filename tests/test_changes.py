"""[24] What comes and what goes; [25] marks by a told lateness."""

import random
import unittest
from collections import Counter

from streamsure.changes import changes, least_lateness, marked
from streamsure.errors import BadLetter
from streamsure.machines import run
from streamsure.queries import Blocks, Each, Lonely, Pairs, Sessions, Side, Windows
from tests import plain
from tests.draws import KINDS, SHAPES, draw_event, draw_letters, draw_query, letters_of

A = Side(KINDS, "a", {})
B = Side(KINDS, "b", {})
END = ("end",)


def event(time, number=0, k=0, v=0):
    return ("event", ("a", time, number, k, v, 0))


def other(time, number=0, k=0):
    return ("event", ("b", time, number, k, 0))


def tick(time, number=0):
    return ("event", ("c", time, number))


def mark(time):
    return ("mark", time)


class ChangesTest(unittest.TestCase):
    def test_what_came_and_did_not_go_is_the_meaning(self):
        draw = random.Random(24)
        gone = Counter()
        for number in range(900):
            query = draw_query(draw, SHAPES[number % len(SHAPES)])
            letters = draw_letters(draw, draw.randint(0, 12), draw.choice((3, 6)), 0.02)
            found = changes(query, letters)
            told = run(query, letters)[1]
            self.assertIs(type(found), tuple)
            self.assertEqual(len(found), len(letters))
            stands, sure = Counter(), Counter()
            for many, (comes, goes) in enumerate(found):
                self.assertEqual((comes, goes), (tuple(sorted(comes)), tuple(sorted(goes))))
                self.assertEqual(Counter(comes) & Counter(goes), Counter())
                self.assertEqual(Counter(goes) - stands, Counter())
                stands = stands + Counter(comes) - Counter(goes)
                meant = plain.meaning(query, plain.stream(letters[:many + 1])[0])
                self.assertEqual(stands, Counter(meant), (query.form(), letters[:many + 1]))
                # what is told never goes
                sure += Counter(told[many])
                self.assertEqual(sure - stands, Counter())
                gone[query.__class__] += len(goes)
            if query.is_empty():
                self.assertEqual(set(found) - {((), ())}, set())
        for shape in (Windows, Blocks, Sessions, Lonely):
            self.assertGreater(gone[shape], 0, shape)
        self.assertEqual(gone[Each] + gone[Pairs], 0)

    def test_one_after_the_other(self):
        query = Windows(A, ["k"], 5, 5, [("count",)])
        letters = [event(1), event(1), event(2), event(1, k=3), mark(4), event(3), event(4), END, event(9)]
        self.assertEqual(changes(query, letters), (
            ((((0,), 0, 5, 1),), ()), ((), ()), ((((0,), 0, 5, 2),), (((0,), 0, 5, 1),)),
            ((((3,), 0, 5, 1),), ()), ((), ()), ((), ()), ((((0,), 0, 5, 3),), (((0,), 0, 5, 2),)),
            ((), ()), ((), ()),
        ))

    def test_alike_answers(self):
        query = Lonely(A, B, [], 3, [])
        letters = [event(1), event(1, 1), event(5), other(3), event(2), other(6, 1)]
        self.assertEqual(changes(query, letters), (
            (((),), ()), (((),), ()), (((),), ()), ((), ((), ())), ((), ()), ((), ((),)),
        ))

    def test_things_that_are_no_letters(self):
        for thing in (None, "end", ("mark", -1), ("event", ("d", 1, 0)), ["end"]):
            with self.assertRaises(BadLetter) as caught:
                changes(Each(A, []), [mark(1), END, thing, thing])
            self.assertEqual(caught.exception.number, 2)


class MarkedTest(unittest.TestCase):
    def test_marks_stand_right_behind_events(self):
        letters = [tick(3), tick(5), tick(5, 1), tick(4), tick(9)]
        self.assertEqual(marked(letters, 0), (
            tick(3), mark(3), tick(5), mark(5), tick(5, 1), tick(4), tick(9), mark(9)))
        self.assertEqual(marked(letters, 3), (
            tick(3), tick(5), mark(2), tick(5, 1), tick(4), tick(9), mark(6)))
        self.assertEqual(marked(tuple(letters), 9), tuple(letters))

    def test_greater_than_0(self):
        self.assertEqual(marked([tick(0)], 0), (tick(0),))
        self.assertEqual(marked([tick(4), tick(5)], 4), (tick(4), tick(5), mark(1)))

    def test_marks_and_ends_that_stood_there_count_for_nothing(self):
        letters = [mark(7), tick(3), END, tick(4), mark(4), tick(4), tick(2)]
        self.assertEqual(marked(letters, 1), (
            mark(7), tick(3), mark(2), END, tick(4), mark(3), mark(4), tick(4), tick(2)))

    def test_no_letters(self):
        self.assertEqual(marked([], 3), ())
        self.assertEqual(least_lateness([]), 0)

    def test_least_lateness(self):
        self.assertEqual(least_lateness([tick(3), tick(5), tick(5), tick(9)]), 0)
        self.assertEqual(least_lateness([tick(3), tick(9), tick(5), tick(8)]), 4)
        self.assertEqual(least_lateness((event(9), other(0))), 9)

    def test_a_doubling_never_counts_as_late(self):
        self.assertEqual(least_lateness([tick(3), tick(9), tick(3)]), 0)
        self.assertEqual(least_lateness([tick(3), tick(9), tick(3, 1), tick(3)]), 6)

    def test_it_is_enough_exactly_from_there_on(self):
        draw = random.Random(25)
        late = 0
        for _ in range(500):
            events = [draw_event(draw, draw.choice((3, 9))) for _ in range(draw.randint(0, 8))]
            letters = letters_of(events + [draw.choice(events) for _ in range(3 * bool(events))])
            if draw.random() < 0.5:
                draw.shuffle(letters)
            least = least_lateness(letters)
            for more in (0, 1, 5):
                self.assertEqual(plain.stream(marked(letters, least + more))[0], set(events))
            if least > 0:
                late += 1
                self.assertNotEqual(plain.stream(marked(letters, least - 1))[0], set(events))
        self.assertGreater(late, 100)


if __name__ == "__main__":
    unittest.main()
