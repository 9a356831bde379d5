"""[33], [34] Machines that fall: what they do from what is stored on, and what the sink has."""

import itertools
import random
import unittest
from collections import Counter

from streamsure.errors import BadLetter
from streamsure.fallerrors import BadPlace
from streamsure.language import read_book
from streamsure.lives import Sink, World, actions_from, plain_answers
from streamsure.machines import run, told_by
from streamsure.queries import Each, Windows
from streamsure.statetexts import value_text
from streamsure.storing import newest, torn, whole_text
from tests.draws import SHAPES, draw_letters, draw_query, letters_of

EMPTY = ("", "")
BOOK = "kind a v\nquery q each a tell v\nquery r windows a length 5 step 5 worths sum:v"
EACH, SUMS = [query for name, query in read_book(BOOK).queries]
LETTERS = letters_of([("a", 1, 0, 5), ("a", 2, 0, 7), ("a", 3, 0, 9)])


def expected_actions(query, letters, every):
    """The actions from the beginning, each letter told by what run tells of all letters up to it."""
    found, told = [], 0
    for place in range(1, len(letters) + 1):
        state, rows = run(query, letters[:place])
        for answer in rows[-1]:
            found.append(("send", told, answer))
            told += 1
        if place % every == 0:
            number = place // every - 1
            found.append(("store", number, whole_text(number, value_text((place, told, state)))))
    return tuple(found)


def drawn(seed, many):
    """Queries, letters and every, drawn."""
    draw = random.Random(seed)
    for number in range(many):
        query = draw_query(draw, SHAPES[number % len(SHAPES)])
        letters = draw_letters(draw, draw.randint(0, 10), 6, 0.04)
        yield draw, query, letters, draw.choice((1, 1, 2, 3, 5, 20))


class ActionsTest(unittest.TestCase):
    def test_the_example(self):
        actions = actions_from(EACH, LETTERS, 2, EMPTY)
        text = "0\n(2 2 (0 ((a 1 0 5) (a 2 0 7))))\nend 0\n"
        self.assertEqual(actions, (("send", 0, (5,)), ("send", 1, (7,)), ("store", 0, text), ("send", 2, (9,))))

    def test_all_actions_from_the_beginning(self):
        for _, query, letters, every in drawn(33, 500):
            self.assertEqual(actions_from(query, letters, every, EMPTY), expected_actions(query, letters, every))

    def test_all_actions_from_each_stored_text(self):
        stores = 0
        for draw, query, letters, every in drawn(34, 400):
            actions = actions_from(query, letters, every, EMPTY)
            for place, (word, number, text) in enumerate(actions):
                if word != "store":
                    continue
                stores += 1
                older = draw.choice(["", "1\n(2", *[row[2] for row in actions[:place] if row[0] == "store"]])
                for places in ((text, ""), ("", text), (text, older), (older, text)):
                    self.assertEqual(actions_from(query, letters, every, places), actions[place + 1:])
        self.assertGreater(stores, 500)

    def test_nothing_whole_is_the_beginning(self):
        actions = actions_from(SUMS, [*LETTERS, ("end",)], 1, EMPTY)
        for places in (("0\n(1 0", ""), ("", "1\n(2 0 (0 () ()))\nend 0\n"), ("x", "y")):
            self.assertEqual(actions_from(SUMS, [*LETTERS, ("end",)], 1, places), actions)

    def test_answers_of_one_letter_ascend(self):
        letters = [*letters_of([("a", 11, 0, 5), ("a", 1, 0, 7), ("a", 6, 0, 9)]), ("end",)]
        sends = [action for action in actions_from(SUMS, letters, 9, EMPTY)]
        self.assertEqual(sends, [("send", 0, ((), 0, 5, 7)), ("send", 1, ((), 5, 10, 9)), ("send", 2, ((), 10, 15, 5))])

    def test_every_counts_places_from_one_on(self):
        letters = [("mark", time) for time in range(7)]
        for every, numbers in ((1, 7), (2, 3), (3, 2), (7, 1), (8, 0), (10 ** 30, 0)):
            actions = actions_from(EACH, letters, every, EMPTY)
            self.assertEqual([action[:2] for action in actions], [("store", number) for number in range(numbers)])
            for number, action in enumerate(actions):
                self.assertTrue(action[2].startswith(f"{number}\n({(number + 1) * every} 0 ("))

    def test_letters_may_be_a_list_or_a_tuple(self):
        self.assertEqual(actions_from(EACH, tuple(LETTERS), 2, EMPTY), actions_from(EACH, LETTERS, 2, EMPTY))
        self.assertEqual(actions_from(EACH, [], 1, EMPTY), ())

    def test_errors_letters_ahead_of_every(self):
        for every in (0, -1, True, None, "2", 2.0, (1,), []):
            with self.assertRaises(BadPlace) as caught:
                actions_from(EACH, LETTERS, every, EMPTY)
            self.assertIs(caught.exception.place, every)
            for make in (actions_from, lambda *told: World(*told[:3])):
                with self.assertRaises(BadLetter) as caught:
                    make(EACH, [*LETTERS, ("mark", -1), 7], every, EMPTY)
                self.assertEqual(caught.exception.number, 3)
            self.assertRaises(BadPlace, World, EACH, LETTERS, every)
        self.assertRaises(BadLetter, actions_from, EACH, [("event", ("a", 1, 0))], 2, EMPTY)


class SinkTest(unittest.TestCase):
    def test_numbers_again_out_of_turn_and_with_gaps(self):
        sink = Sink()
        self.assertEqual((sink.kept, sink.answers()), ({}, ()))
        for number, answer, answers in (
            (2, (3,), ()), (1, (2,), ()), (0, (1,), ((1,), (2,), (3,))), (0, (9,), ((1,), (2,), (3,))),
            (2, (9,), ((1,), (2,), (3,))), (5, (6,), ((1,), (2,), (3,))), (3, (), ((1,), (2,), (3,), ())),
            (4, (5,), ((1,), (2,), (3,), (), (5,), (6,))),
        ):
            self.assertIsNone(sink.take(number, answer))
            self.assertEqual(sink.answers(), answers)
        self.assertEqual(sink.kept, {0: (1,), 1: (2,), 2: (3,), 3: (), 4: (5,), 5: (6,)})

    def test_each_sink_keeps_for_itself(self):
        one, other = Sink(), Sink()
        one.take(0, (1,))
        self.assertEqual(other.answers(), ())

    def test_any_order_of_the_same_sends(self):
        sends = [(0, "a"), (1, "b"), (2, "c"), (1, "b")]
        for order in itertools.permutations(sends):
            sink = Sink()
            for number, answer in order:
                sink.take(number, answer)
            self.assertEqual(sink.answers(), ("a", "b", "c"))


class PlainTest(unittest.TestCase):
    def test_by_letters_and_ascending_at_each(self):
        letters = letters_of([("a", 3, 0, 5), ("a", 2, 0, 4), ("a", 1, 0, 9), ("a", 1, 0, 9)])
        self.assertEqual(plain_answers(EACH, letters), ((5,), (4,), (9,)))
        letters = [*letters_of([("a", 11, 0, 5), ("a", 1, 0, 7)]), ("mark", 99)]
        self.assertEqual(plain_answers(SUMS, letters), (((), 0, 5, 7), ((), 10, 15, 5)))

    def test_drawn(self):
        for _, query, letters, _ in drawn(35, 200):
            answers = plain_answers(query, letters)
            self.assertEqual(list(answers), [answer for row in run(query, letters)[1] for answer in row])
            self.assertEqual(tuple(sorted(answers)), told_by(query, letters))

    def test_bad_letters(self):
        with self.assertRaises(BadLetter) as caught:
            plain_answers(EACH, [*LETTERS, "end"])
        self.assertEqual(caught.exception.number, 3)


class WorldCase(unittest.TestCase):
    def assert_right(self, world, sofar=()):
        """What the sink has begins what a machine that never falls tells; what is stored is what it is then."""
        answers, plain = world.sink.answers(), plain_answers(world.query, world.letters)
        self.assertEqual(answers, plain[:len(answers)])
        self.assertGreaterEqual(len(answers), len(sofar))
        self.assertEqual(len(world.sink.kept), len(answers))
        stored = newest(world.places)
        if stored is not None:
            many = (stored[0] + 1) * world.every
            state, told = run(world.query, world.letters[:many])
            self.assertEqual(stored[1], value_text((many, sum(map(len, told)), state)))
            self.assertGreaterEqual(len(answers), sum(map(len, told)))
        return answers

    def assert_finishes(self, world):
        world.finish()
        self.assertEqual(world.actions, ())
        self.assertEqual(self.assert_right(world), plain_answers(world.query, world.letters))
        counts = Counter(world.sink.answers())
        self.assertEqual(counts, Counter(told_by(world.query, world.letters)))


class WorldTest(WorldCase):
    def test_the_example(self):
        world = World(EACH, LETTERS, 2)
        self.assertEqual(world.actions[2][2][:7], "0\n(2 2 ")
        self.assertEqual(world.actions[2][2][-7:], "\nend 0\n")
        self.assertIsNone(world.live(2, 5, False))
        self.assertEqual((world.places[0], world.sink.answers(), len(world.actions)), ("0\n(2 ", ((5,), (7,)), 4))
        self.assertIsNone(world.finish())
        self.assertEqual(world.sink.answers(), ((5,), (7,), (9,)))

    def test_attributes_when_it_is_made(self):
        world = World(EACH, LETTERS, 2)
        self.assertIs(world.query, EACH)
        self.assertEqual((world.letters, world.every, world.places), (tuple(LETTERS), 2, EMPTY))
        self.assertEqual(world.actions, actions_from(EACH, LETTERS, 2, EMPTY))
        self.assertEqual((world.sink.__class__, world.sink.answers()), (Sink, ()))
        for made in (iter(LETTERS), tuple(LETTERS)):
            self.assertEqual(World(EACH, made, 2).letters, tuple(LETTERS))

    def test_falls_behind_every_number_of_actions(self):
        for draw, query, letters, every in drawn(36, 200):
            for many in range(len(World(query, letters, every).actions) + 1):
                world = World(query, letters, every)
                actions = world.actions
                world.live(many, None, draw.choice((False, True)))
                self.assert_right(world)
                sends = [row[2] for row in actions[:many] if row[0] == "send"]
                self.assertEqual(world.sink.answers(), tuple(sends))
                stores = [place + 1 for place, row in enumerate(actions[:many]) if row[0] == "store"]
                self.assertEqual(world.actions, actions[max(stores, default=0):])
                self.assertEqual(world.actions, actions_from(query, letters, every, world.places))
                self.assert_finishes(world)

    def test_falls_amid_each_store_cut_at_every_place(self):
        cuts = 0
        for _, query, letters, every in drawn(37, 60):
            actions = World(query, letters, every).actions
            for many, row in enumerate(actions):
                if row[0] != "store":
                    continue
                for cut, is_over in itertools.product(range(len(row[2]) + 1), (False, True)):
                    cuts += 1
                    world = World(query, letters, every)
                    world.live(many, cut, is_over)
                    place = row[1] % 2
                    old = [one[2] for one in actions[:many] if one[0] == "store" and one[1] % 2 == place]
                    self.assertEqual(world.places[place], torn(old[-1] if old else "", row[2], cut, is_over))
                    is_whole = world.places[place] == row[2]
                    stores = [at + 1 for at, one in enumerate(actions[:many]) if one[0] == "store"]
                    begin = many + 1 if is_whole else max(stores, default=0)
                    self.assertEqual(world.actions, actions[begin:])
                    if cut % 7 == 0:
                        self.assert_right(world)
                        self.assert_finishes(world)
        self.assertGreater(cuts, 5000)

    def test_falls_again_and_again(self):
        for draw, query, letters, every in drawn(38, 500):
            world, sofar = World(query, letters, every), ()
            for _ in range(draw.randint(1, 12)):
                many = draw.randint(0, len(world.actions))
                if draw.random() < 0.7:
                    stores = [place for place, row in enumerate(world.actions) if row[0] == "store"]
                    many = draw.choice(stores) if stores else many
                row = world.actions[many] if many < len(world.actions) else ("none",)
                cut = draw.randint(0, len(row[2])) if row[0] == "store" else draw.choice((None, 3, -1, "x"))
                world.live(many, draw.choice((cut, cut, None)), draw.choice((False, True)))
                sofar = self.assert_right(world, sofar)
            self.assert_finishes(world)

    def test_at_every_moment_one_action_at_a_time(self):
        for draw, query, letters, every in drawn(39, 150):
            world, sofar = World(query, letters, every), ()
            while world.actions:
                # each store is written at once; without one the machine would begin again and again
                stores = [place + 1 for place, row in enumerate(world.actions) if row[0] == "store"]
                if not stores:
                    break
                for many in range(stores[0]):
                    world.live(many, None, False)
                    sofar = self.assert_right(world, sofar)
                world.live(stores[0], None, False)
                sofar = self.assert_right(world, sofar)
            self.assert_finishes(world)

    def test_finish_behind_finish_and_a_fall_behind_it(self):
        world = World(SUMS, [*LETTERS, ("mark", 5)], 3)
        world.finish()
        world.finish()
        self.assert_finishes(world)
        world.live(0, None, False)
        self.assertEqual(world.actions, (("send", 0, ((), 0, 5, 21)),))
        self.assert_finishes(world)

    def test_worlds_without_letters_and_of_empty_queries(self):
        nothing = Windows(EACH.side.__class__(EACH.side.kinds, "a", {"v": []}), [], 1, 1, [])
        for query, letters in ((EACH, []), (nothing, LETTERS)):
            world = World(query, letters, 1)
            world.live(len(world.actions), None, True)
            self.assertEqual(world.sink.answers(), ())
            self.assert_finishes(world)


class LongNumbersTest(WorldCase):
    """Numbers in states may have more figures than values may: no point says that this is an error."""

    def assert_falls_well(self, query, letters):
        for every in (1, 2):
            for many in range(len(World(query, letters, every).actions) + 1):
                world = World(query, letters, every)
                actions = world.actions
                world.live(many, None, False)
                self.assert_right(world)
                stores = [place + 1 for place, row in enumerate(actions[:many]) if row[0] == "store"]
                self.assertEqual(world.actions, actions[max(stores, default=0):])
                self.assert_finishes(world)

    def test_events_that_are_kept(self):
        for number in (10 ** 4000 - 1, 10 ** 4000, -10 ** 4000, 10 ** 5000):
            letters = letters_of([("a", 1, 0, number), ("a", 2, 0, 7), ("a", 1, 0, number), ("a", 3, 0, -number)])
            self.assert_falls_well(EACH, letters)

    def test_sums_that_outgrow_their_parts(self):
        part = 10 ** 4000 - 1
        letters = [*letters_of([("a", 1, 0, part), ("a", 2, 0, part)]), ("mark", 3), ("mark", 4), ("end",)]
        self.assert_falls_well(SUMS, letters)
        self.assertEqual(plain_answers(SUMS, letters), (((), 0, 5, 2 * part),))

    def test_times(self):
        time = 10 ** 4001
        self.assert_falls_well(SUMS, [*letters_of([("a", time, 0, 1)]), ("mark", time + 1), ("mark", time + 9)])


class LiveErrorsTest(unittest.TestCase):
    def assert_bad(self, world, told, place):
        ahead = (world.places, world.actions, world.sink.answers(), dict(world.sink.kept))
        with self.assertRaises(BadPlace) as caught:
            world.live(*told)
        self.assertIs(caught.exception.place, place)
        self.assertEqual((world.places, world.actions, world.sink.answers(), world.sink.kept), ahead)

    def test_many(self):
        for many in (-1, 5, 100, True, False, None, "2", 2.0, (2,)):
            for cut in (None, 0, -1, "x"):
                self.assert_bad(World(EACH, LETTERS, 2), (many, cut, False), many)

    def test_cuts_of_a_store_that_comes_next(self):
        world = World(EACH, LETTERS, 2)
        great = len(world.actions[2][2]) + 1
        for cut in (-1, great, True, False, "1", 1.0, ()):
            for is_over in (False, True):
                self.assert_bad(world, (2, cut, is_over), cut)
        world.live(2, great - 1, False)
        self.assertEqual([action[:2] for action in world.actions], [("send", 2)])

    def test_cuts_count_only_where_a_store_comes_next(self):
        for many in (0, 1, 3, 4):
            for cut in (-1, 10 ** 9, True, "x"):
                world = World(EACH, LETTERS, 2)
                world.live(many, cut, True)
                self.assertEqual(len(world.sink.answers()), (0, 1, 2, 2, 3)[many])
                self.assertEqual(world.places[1], "")

    def test_no_cut_leaves_the_store_undone(self):
        world = World(EACH, LETTERS, 2)
        world.live(2, None, True)
        self.assertEqual((world.places, len(world.actions)), (EMPTY, 4))


class EachTellsTest(unittest.TestCase):
    def test_single_events_are_told_once_however_often_it_falls(self):
        query = Each(EACH.side, ["time", "v"])
        letters = letters_of([("a", time % 3 + time, 0, time % 2) for time in range(9)])
        for every, rounds in ((1, 1), (2, 5), (4, 3)):
            world = World(query, letters, every)
            for _ in range(rounds):
                world.live(min(3, len(world.actions)), None, False)
            world.finish()
            self.assertEqual(world.sink.answers(), tuple((row[1][1], row[1][3]) for row in letters))


if __name__ == "__main__":
    unittest.main()
