"""[39] Which queries are the same, and streams that tell others apart."""

import itertools
import random
import unittest
from collections import Counter

from streamsure.comparing import are_same, form_of
from streamsure.differing import told_from
from streamsure.language import read_book
from streamsure.machines import told_by
from streamsure.meaning import stream_of
from streamsure.queries import Blocks, Each, Kinds, Lonely, Pairs, Sessions, Side, Windows
from tests import plain
from tests.draws import SHAPES, draw_query

BOOK = "kind a k v w\nkind b k x y\nkind c\n"


def query_of(words):
    return read_book(f"{BOOK}query q {words}").queries[0][1]


class SameCase(unittest.TestCase):
    def assert_apart(self, one, other, kinds=None):
        """The stream that is told ends by the one end, and tells two queries apart."""
        letters = told_from(one, other)
        self.assertIs(type(letters), tuple, (one.form(), other.form()))
        self.assertEqual(letters[-1], ("end",))
        self.assertEqual(letters.count(("end",)), 1)
        kinds = kinds or (one.side if hasattr(one, "side") else one.first).kinds
        for letter in letters[:-1]:
            self.assertTrue(letter[0] == "mark" or letter[0] == "event" and kinds.is_event(letter[1]), letter)
        stream = stream_of(letters)[0]
        self.assertNotEqual(plain.meaning(one, stream), plain.meaning(other, stream), (one.form(), other.form()))
        self.assertNotEqual(told_by(one, letters), told_by(other, letters))

    def assert_all_same(self, *texts):
        queries = [query_of(words) for words in texts]
        for one, other in itertools.product(queries, queries):
            self.assertIs(are_same(one, other), True, (one.form(), other.form()))
            self.assertEqual(form_of(one), form_of(other))
            self.assertIsNone(told_from(one, other))

    def assert_all_unlike(self, *texts):
        queries = [query_of(words) for words in texts]
        for one, other in itertools.permutations(queries, 2):
            self.assertIs(are_same(one, other), False, (one.form(), other.form()))
            self.assertNotEqual(form_of(one), form_of(other))
            self.assert_apart(one, other)


class FormTest(SameCase):
    def test_forms_are_tuples_that_can_be_keys(self):
        draw = random.Random(390)
        for number in range(300):
            form = form_of(draw_query(draw, SHAPES[number % len(SHAPES)]))
            self.assertIs(type(form), tuple)
            self.assertEqual(hash(form), hash(form))

    def test_a_query_is_the_same_as_itself(self):
        draw = random.Random(391)
        for number in range(300):
            query = draw_query(draw, SHAPES[number % len(SHAPES)])
            self.assertTrue(are_same(query, query))
            self.assertIsNone(told_from(query, query))

    def test_kinds_may_be_made_twice(self):
        one, other = [Kinds({"a": ("k",)}) for _ in range(2)]
        self.assertTrue(are_same(Each(Side(one, "a", {}), ["k"]), Each(Side(other, "a", {"k": [(None, None)]}), ["k"])))


class EmptyTest(SameCase):
    """(1)"""

    def test_queries_that_are_empty_are_one(self):
        self.assert_all_same(
            "each a where k - tell k", "each b where y - tell id",
            "windows a where k 5..3 length 4 step 2 worths count", "blocks b where x - size 3",
            "sessions a where w - gap 2", "pairs a where k - with b near 2 tell /",
            "pairs a with b where y - near 2 tell k /",
            "pairs a where k 1..3 with b where x 4..9 on k:x behind 2 tell k / x",
            "pairs a where k 1,3 with b where x 2 on v:y k:x near 0 tell /",
            "lonely a where v - without c for 3 tell k",
        )

    def test_others_are_not(self):
        self.assert_all_unlike("each a where k - tell k", "each a where k 1 tell k", "each a tell k")
        self.assert_all_unlike("blocks a where k - size 3", "blocks a where k 1 size 3")
        self.assert_all_unlike("pairs a where k 1..3 with b where x 4..9 on k:x behind 2 tell k / x",
                               "pairs a where k 1..4 with b where x 4..9 on k:x behind 2 tell k / x")
        self.assert_all_unlike(
            "lonely a where k - without b for 3 tell k", "lonely a without b where x - for 3 tell k",
            "lonely a without b for 3 tell k",
        )
        self.assert_all_unlike("sessions a gap 1", "sessions a where w - gap 1", "windows a length 1 step 1")


class ConstantTest(SameCase):
    """(2)"""

    def test_told_and_keys(self):
        self.assert_all_same("each a where k 5 w 5 tell k w v", "each a where k 5..5 w 5,5 tell w k v",
                             "each a where k 5 w 5 tell k k v")
        self.assert_all_same(
            "windows a where k 5 w 5 by k length 4 step 2", "windows a where k 5 w 5 by w length 4 step 2",
        )
        self.assert_all_same("blocks a where k 5 w 5 by k v size 2", "blocks a where k 5 w 5 by w v size 2")
        self.assert_all_same(
            "lonely a where k 5 w 5 without b for 2 tell k", "lonely a where k 5 w 5 without b for 2 tell w",
        )
        self.assert_all_unlike(
            "each a where k 5 w 6 tell k", "each a where k 5 w 6 tell w", "each a where k 5 w 6 tell v",
            "each a where k 5 w 6 tell k k", "each a where k 5 w 6 tell", "each a where k 5 w 6 tell id",
            "each a where k 5 w 6 tell time",
        )
        self.assert_all_unlike(
            "windows a where k 5 w 5 by k length 4 step 2", "windows a where k 5 w 5 length 4 step 2",
            "windows a where k 5 w 5 by v length 4 step 2", "windows a where k 5 w 5 by v k length 4 step 2",
            "windows a where k 5 w 5 by k v length 4 step 2", "windows a where k 5 w 5 by k w length 4 step 2",
        )

    def test_times_and_ids_are_no_numbers_of_a_where(self):
        for number in (0, 1, 2, 3):
            self.assert_all_unlike(f"each a where k {number} tell k", f"each a where k {number} tell time",
                                   f"each a where k {number} tell id", f"each a where k {number} tell v")

    def test_worths(self):
        head = "windows a where k {} w {} length 4 step 2 worths "
        for k, w in ((0, 0), (1, 1), (5, 5), (-3, -3)):
            ahead = head.format(k, w)
            self.assert_all_same(f"{ahead}least:k", f"{ahead}greatest:k", f"{ahead}least:w")
            self.assert_all_same(f"{ahead}sum:k", f"{ahead}sum:w")
            self.assert_all_same(f"{ahead}unlike:k", f"{ahead}unlike:w", f"{ahead}atleast:1")
        ahead = head.format(1, 0)
        self.assert_all_same(f"{ahead}sum:k", f"{ahead}count")
        self.assert_all_same(f"{ahead}sum:w", f"{ahead}least:w", f"{ahead}greatest:w")
        self.assert_all_same(
            f"{ahead}least:k", f"{ahead}greatest:k", f"{ahead}unlike:k", f"{ahead}unlike:w", f"{ahead}atleast:1",
        )
        self.assert_all_unlike(
            f"{ahead}sum:k", f"{ahead}sum:w", f"{ahead}atleast:1", f"{ahead}atleast:2", f"{ahead}sum:v",
        )

    def test_counts_by_a_number(self):
        self.assert_all_unlike(
            *[f"windows a where k {number} w 2 length 4 step 2 worths sum:w" for number in (0, 1)],
            *[f"windows a where k 2 w {number} length 4 step 2 worths sum:w" for number in (-1, 0, 1, 2, 3)],
        )
        self.assert_all_unlike(
            *[f"windows a where k 2 w -1 length 4 step 2 worths {worth}"
              for worth in ("sum:k", "sum:w", "count", "least:w", "least:k", "unlike:k", "atleast:2")],
        )

    def test_sessions(self):
        self.assert_all_same("sessions a where k 1 gap 2 worths sum:k", "sessions a where k 1 gap 2 worths count")
        self.assert_all_same(
            "sessions a where k 4 gap 2 worths least:k", "sessions a where k 4 gap 2 worths greatest:k",
        )
        self.assert_all_unlike(
            "sessions a where k 4 gap 2 worths sum:k", "sessions a where k 4 gap 2 worths count",
            "sessions a where k 4 gap 2 worths least:k", "sessions a where k 4 gap 2 worths least:v",
        )

    def test_near_the_one_number(self):
        for worth in ("least", "greatest", "sum", "unlike"):
            self.assert_all_unlike(f"windows a where k 5 length 4 step 2 worths {worth}:k",
                                   f"windows a where k 5..6 length 4 step 2 worths {worth}:k",
                                   f"windows a where k 5,7 length 4 step 2 worths {worth}:k")
        self.assert_all_unlike(
            "windows a where k 0,1 length 4 step 2 worths sum:k",
            "windows a where k 0,1 length 4 step 2 worths count",
            "windows a where k 0,1 length 4 step 2 worths unlike:k",
            "windows a where k 0,1 length 4 step 2 worths least:k",
            "windows a where k 0,1 length 4 step 2 worths greatest:k",
            "windows a where k 0,1 length 4 step 2 worths atleast:1",
            "windows a where k 0,1 length 4 step 2 worths atleast:2",
        )


class BlocksTest(SameCase):
    """(3)"""

    def test_counts_of_blocks(self):
        self.assert_all_same("blocks a where k 3 size 3 worths count", "blocks a where k 3 size 3 worths least:k")
        self.assert_all_same("blocks a where k 1 size 3 worths sum:k", "blocks a where k 1 size 3 worths count")
        self.assert_all_same(
            "blocks a where k 2 w 6 size 3 worths sum:k", "blocks a where k 2 w 6 size 3 worths greatest:w",
        )
        self.assert_all_same(
            "blocks a where k 2 w 1 size 3 worths unlike:k", "blocks a where k 2 w 1 size 3 worths least:w",
            "blocks a where k 2 w 1 size 3 worths unlike:w",
        )
        self.assert_all_unlike(
            "blocks a where k 2 size 3 worths sum:k", "blocks a where k 2 size 3 worths count",
            "blocks a where k 2 size 3 worths least:k", "blocks a where k 2 size 3 worths unlike:k",
            "blocks a where k 2 size 3 worths sum:v",
        )
        self.assert_all_unlike("blocks a where k 2 size 2 worths count", "blocks a where k 2 size 3 worths least:k",
                               "blocks a where k 2 size 2 worths sum:k", "blocks a where k 2 size 4 worths sum:k")

    def test_blocks_of_one(self):
        self.assert_all_same(
            "blocks a size 1 worths sum:k", "blocks a size 1 worths least:k", "blocks a size 1 worths greatest:k",
        )
        self.assert_all_same(
            "blocks a size 1 worths unlike:k", "blocks a size 1 worths unlike:v", "blocks a size 1 worths count",
        )
        self.assert_all_unlike(
            "blocks a size 1 worths sum:k", "blocks a size 1 worths sum:v", "blocks a size 1 worths count",
            "blocks a size 1 worths count sum:k", "blocks a size 1",
        )
        self.assert_all_unlike(
            "blocks a size 2 worths sum:k", "blocks a size 2 worths least:k", "blocks a size 2 worths greatest:k",
            "blocks a size 2 worths unlike:k", "blocks a size 2 worths unlike:v", "blocks a size 2 worths count",
        )
        self.assert_all_unlike(
            "blocks a where k 0,1 v 0,1 size 2 worths sum:k", "blocks a where k 0,1 v 0,1 size 2 worths least:k",
            "blocks a where k 0,1 v 0,1 size 2 worths greatest:k",
            "blocks a where k 0,1 v 0,1 size 2 worths unlike:k", "blocks a where k 0,1 v 0,1 size 2 worths sum:v",
            "blocks a where k 0,1 v 0,1 size 2 worths unlike:v",
        )

    def test_windows_of_one_tick_are_no_blocks(self):
        self.assert_all_unlike("windows a length 1 step 1 worths sum:k", "windows a length 1 step 1 worths least:k",
                               "windows a length 1 step 1 worths first", "windows a length 1 step 1 worths last",
                               "windows a length 1 step 1 worths unlike:k", "windows a length 1 step 1 worths count")


class PairsTest(SameCase):
    """(4)"""

    def test_sides_count_as_far_as_keys_can_be(self):
        self.assert_all_same(
            "pairs a where k 0..5 with b on k:k near 2 tell v / x",
            "pairs a with b where k 0..5 on k:k near 2 tell v / x",
            "pairs a where k ..5 with b where k 0.. on k:k near 2 tell v / x",
        )
        self.assert_all_unlike(
            "pairs a where k 0..5 with b on k:k near 2 tell v / x",
            "pairs a where k 0..6 with b on k:k near 2 tell v / x", "pairs a where k 0..5 with b near 2 tell v / x",
            "pairs a with b where k 0..5 near 2 tell v / x", "pairs a with b on k:k near 2 tell v / x",
        )

    def test_a_key_of_one_number_asks_no_more(self):
        self.assert_all_same(
            "pairs a where k 3 with b on k:k behind 2 tell v /",
            "pairs a where k 3 with b where k 3 behind 2 tell v /",
            "pairs a where k ..3 with b where k 3.. on k:k behind 2 tell v /",
        )
        self.assert_all_same(
            "pairs a where k 3 with b on k:k behind 2 tell k / k",
            "pairs a with b where k 3 on k:k behind 2 tell k k /",
        )
        self.assert_all_same("pairs a where k 3 w 3 with b on k:k w:x near 1 tell k w / y",
                             "pairs a where k 3 w 3 with b on k:x w:k near 1 tell k w / y",
                             "pairs a where k 3 w 3 with b where k 3 x 3 near 1 tell k w / y")
        self.assert_all_unlike(
            "pairs a where k 3 with b on k:k behind 2 tell v /", "pairs a where k 3 with b behind 2 tell v /",
            "pairs a where k 3,4 with b on k:k behind 2 tell v /",
            "pairs a where k 3,4 with b where k 3,4 behind 2 tell v /",
        )

    def test_key_fields_are_one_in_what_is_told(self):
        self.assert_all_same(
            "pairs a with b on k:k v:x near 2 tell k v /", "pairs a with b on k:k v:x near 2 tell / k x",
            "pairs a with b on k:k v:x near 2 tell k / x",
        )
        self.assert_all_unlike(
            "pairs a with b on k:k v:x near 2 tell k /", "pairs a with b on k:k v:x near 2 tell / x",
            "pairs a with b on k:k v:x near 2 tell w /", "pairs a with b on k:k v:x near 2 tell / y",
            "pairs a with b on k:x v:k near 2 tell k /", "pairs a with b on k:x v:k near 2 tell / k",
        )
        self.assert_all_unlike("pairs a with b near 2 tell k /", "pairs a with b near 2 tell / k")

    def test_near_pairs_from_either_side(self):
        self.assert_all_same(
            "pairs a where v 1.. with b on k:k v:x near 2 tell k time /",
            "pairs b with a where v 1.. on x:v k:k near 2 tell k / time",
        )
        self.assert_all_same("pairs a with b near 2 tell v w /", "pairs b with a near 2 tell / v w")
        self.assert_all_same(
            "pairs b with c near 0 tell / time", "pairs c with b near 0 tell / time",
            "pairs c with b near 0 tell time /",
        )
        self.assert_all_unlike("pairs a with b near 2 tell v / x", "pairs b with a near 2 tell x / v")
        self.assert_all_unlike(
            "pairs a with b behind 2 tell v /", "pairs b with a behind 2 tell / v",
            "pairs a with b near 2 tell v /", "pairs b with a near 1 tell / v", "pairs a with b behind 1 tell v /",
            "pairs a with b near 0 tell v /", "pairs a with c near 2 tell v /",
        )

    def test_with_reach_0_both_times_are_one(self):
        self.assert_all_same(
            "pairs a with b near 0 tell time /", "pairs a with b near 0 tell / time",
            "pairs b with a near 0 tell time /",
        )
        self.assert_all_unlike(
            "pairs a with b near 0 tell time /", "pairs a with b near 0 tell id /",
            "pairs a with b near 0 tell / id", "pairs a with b near 0 tell k /", "pairs a with b near 0 tell /",
            "pairs a with b near 0 tell time / time",
        )
        self.assert_all_unlike(
            "pairs a with b near 1 tell time /", "pairs a with b near 1 tell / time",
            "pairs a with b behind 1 tell time /", "pairs a with b behind 1 tell / time",
            "pairs a with b behind 1 tell id /", "pairs a with b behind 1 tell / id",
        )

    def test_the_order_of_keys_does_not_matter(self):
        self.assert_all_same(
            "pairs a with b on k:k v:x behind 2 tell w /", "pairs a with b on v:x k:k behind 2 tell w /",
        )
        self.assert_all_same(
            "pairs a with b on k:x v:k w:y near 2 tell /", "pairs b with a on y:w x:k k:v near 2 tell /",
        )
        self.assert_all_unlike(
            "pairs a with b on k:k v:x near 2 tell /", "pairs a with b on k:x v:k near 2 tell /",
            "pairs a with b on k:k near 2 tell /", "pairs a with b on v:x near 2 tell /",
            "pairs a with b near 2 tell /",
        )

    def test_small_sets_that_are_alike(self):
        ahead = "pairs a where k 0,1 v 0,1 with b where k 0,1 x 0,1"
        self.assert_all_unlike(
            f"{ahead} on k:k near 1 tell /", f"{ahead} on v:k near 1 tell /", f"{ahead} on k:x near 1 tell /",
            f"{ahead} on k:k v:x near 1 tell /", f"{ahead} on k:x v:k near 1 tell /", f"{ahead} near 1 tell /",
        )


class LonelyTest(SameCase):
    """(5)"""

    def test_the_second_side_counts_as_far_as_keys_can_be(self):
        self.assert_all_same(
            "lonely a where k 0..5 without b on k:k for 2 tell v",
            "lonely a where k 0..5 without b where k 0..5 on k:k for 2 tell v",
            "lonely a where k 0..5 without b where k -3..9 on k:k for 2 tell v",
        )
        self.assert_all_unlike(
            "lonely a without b where k 0..5 on k:k for 2 tell v",
            "lonely a where k 0..5 without b on k:k for 2 tell v", "lonely a without b on k:k for 2 tell v",
            "lonely a where k 0..5 without b where k 0..4 on k:k for 2 tell v",
            "lonely a where k 0..5 without b where k 1..9 on k:k for 2 tell v",
        )

    def test_a_key_field_of_one_number_asks_no_more(self):
        self.assert_all_same(
            "lonely a where k 3 without b on k:k for 2 tell v",
            "lonely a where k 3 without b where k 3 for 2 tell v",
        )
        self.assert_all_unlike(
            "lonely a where k 3 without b on k:k for 2 tell v", "lonely a where k 3 without b for 2 tell v",
            "lonely a where k 3 without b where k 4 for 2 tell v",
            "lonely a where k 3,4 without b where k 3 for 2 tell v",
            "lonely a where k 3,4 without b on k:k for 2 tell v",
        )
        self.assert_all_same(
            "lonely a where k 3 w 3 without b on k:k for 2 tell k",
            "lonely a where k 3 w 3 without b on w:k for 2 tell w",
        )

    def test_the_second_ones_one_number_asks_for_the_firsts(self):
        self.assert_all_same(
            "lonely a without b where k 3 x 3 on k:k for 2 tell v",
            "lonely a without b where k 3 x 3 on k:x for 2 tell v",
        )
        self.assert_all_same("lonely a where k 3.. without b where k ..3 x 3 on k:k for 2 tell v",
                             "lonely a where k 3.. without b where k 3 x 3 on k:x for 2 tell v")
        self.assert_all_unlike(
            "lonely a without b where k 3 x 3 on k:k for 2 tell v",
            "lonely a without b where k 3 x 3 on v:k for 2 tell v", "lonely a without b where k 3 x 3 for 2 tell v",
            "lonely a without b where k 3 on k:k for 2 tell v",
            "lonely a without b where k 3 x 3 on k:k v:x for 2 tell v",
            "lonely a where k 3 without b where k 3 x 3 for 2 tell v",
            "lonely a without b where k 3 x 4 on k:k for 2 tell v",
            "lonely a without b where k 4 x 3 on k:x for 2 tell v",
        )

    def test_what_is_told_hangs_on_the_first_side_alone(self):
        self.assert_all_unlike(
            "lonely a without b where k 3 on k:k for 2 tell k", "lonely a without b where k 3 on k:k for 2 tell v",
            "lonely a without b where k 3 on k:k for 2 tell",
            "lonely a where k 3 without b where k 3 on k:k for 2 tell k",
        )

    def test_without_a_key_that_fits_they_are_single_events(self):
        self.assert_all_same(
            "lonely a without b where x - for 2 tell v k", "each a tell v k",
            "lonely a without b where y - on k:x for 9 tell v k",
        )
        self.assert_all_same(
            "lonely a where k 1..3 without b where x 4..9 on k:x for 2 tell time k",
            "each a where k 1..3 tell time k",
            "lonely a where k 1..3 without b where x 5,7 on v:y k:x for 5 tell time k",
        )
        self.assert_all_unlike(
            "lonely a where k 1..3 without b where x 3..9 on k:x for 2 tell k", "each a where k 1..3 tell k",
            "lonely a where k 1..3 without b for 2 tell k", "each a where k 1..2 tell k",
        )
        self.assert_all_unlike(
            "lonely a without c for 2 tell k", "lonely a without b for 2 tell k", "lonely a without c for 3 tell k",
            "each a tell k",
        )

    def test_the_order_of_keys_does_not_matter(self):
        self.assert_all_same(
            "lonely a without b on k:k v:x w:y for 2 tell k", "lonely a without b on w:y v:x k:k for 2 tell k",
        )
        self.assert_all_unlike(
            "lonely a without b on k:k v:x for 2 tell k", "lonely a without b on k:x v:k for 2 tell k",
            "lonely a without b on k:k for 2 tell k", "lonely a without b on v:x for 2 tell k",
            "lonely a without b for 2 tell k",
        )

    def test_kinds_exchanged(self):
        self.assert_all_unlike("lonely a without b on k:k for 2 tell k", "lonely b without a on k:k for 2 tell k")


class ApartTest(SameCase):
    """(6)"""

    def test_shapes(self):
        self.assert_all_unlike(
            "each a tell", "windows a length 1 step 1", "blocks a size 1", "blocks a size 3", "sessions a gap 1",
            "pairs a with b near 0 tell /", "pairs a with b behind 1 tell /", "lonely a without b for 1 tell",
            "each b tell", "lonely a without c for 1 tell", "each a where k - tell",
        )

    def test_lengths_and_steps(self):
        self.assert_all_unlike(*[f"windows a length {length} step {step} worths least:v"
                                 for length in range(1, 6) for step in range(1, length + 1)])
        self.assert_all_unlike(
            *[f"windows a length {length} step {step}" for length, step in ((10, 10), (10, 9), (10, 5), (20, 10))],
        )

    def test_sizes_gaps_and_reaches(self):
        self.assert_all_unlike(*[f"blocks a size {size}" for size in (1, 2, 3, 7)])
        self.assert_all_unlike(*[f"sessions a gap {gap}" for gap in (1, 2, 3, 50)])
        self.assert_all_unlike(*[f"pairs a with b near {reach} tell /" for reach in (0, 1, 2, 50)],
                               *[f"pairs a with b behind {reach} tell /" for reach in (1, 2, 50)],
                               *[f"pairs b with a behind {reach} tell /" for reach in (1, 2, 50)])
        self.assert_all_unlike(*[f"lonely a without b for {reach} tell" for reach in (1, 2, 3, 50)])

    def test_so_many_alike_ones(self):
        self.assert_all_unlike(*[f"windows a length 4 step 2 worths atleast:{many}" for many in (1, 2, 3, 4, 30, 31)],
                               "windows a length 4 step 2 worths count", "windows a length 4 step 2 worths unlike:k")
        self.assert_all_unlike(
            "blocks a size 30", "blocks a size 31", "blocks a where k 0.. size 30", "blocks a by k size 30",
            "blocks a size 30 worths least:k", "blocks a size 30 worths greatest:k",
            "blocks a size 30 worths unlike:k", "blocks a size 30 worths unlike:v", "blocks a size 30 worths sum:k",
            "blocks a size 30 worths sum:v",
        )

    def test_worths_of_rows(self):
        worths = ["worths", *[f"worths {words}" for words in (
            "count", "atleast:2", "sum:k", "sum:v", "least:k", "least:v", "greatest:k", "greatest:v", "unlike:k",
            "unlike:v", "first", "last", "count count", "least:k greatest:k", "greatest:k least:k")]]
        self.assert_all_unlike(*[f"windows a length 4 step 2 {words}" for words in worths])
        self.assert_all_unlike(*[f"windows a where k 0,1 v 0,1 length 4 step 2 {words}" for words in worths])
        self.assert_all_unlike(*[f"windows a where k 0,1 v 0,1 by w length 4 step 2 {words}" for words in worths])
        self.assert_all_unlike(*[f"sessions a where k 0,1 v 0,1 gap 2 {words}" for words in worths
                                 if "atleast" not in words and "unlike" not in words])

    def test_wheres(self):
        sets = ("-", "0", "1", "0..1", "0,2", "0..", "..0", "..-1,1..", "7,9..12")
        for tail in ("tell v",):
            self.assert_all_unlike(*[f"each a where k {one} {tail}" for one in sets])
        for ahead, tail in (("windows a", "length 3 step 2 worths sum:v"), ("blocks a", "size 2"),
                            ("sessions a", "gap 1"), ("lonely a", "without b for 1 tell v"), ("pairs a", "with b near 1 tell v /")):
            self.assert_all_unlike(*[f"{ahead} where k {one} {tail}" for one in sets])
        self.assert_all_unlike(*[f"lonely a without b where k {one} on k:k for 1 tell v" for one in sets])
        self.assert_all_unlike(*[f"pairs a with b where x {one} on k:x near 1 tell v /" for one in sets])


class DrawnTest(SameCase):
    def test_being_the_same_parts_queries_into_lots(self):
        draw = random.Random(392)
        queries = [draw_query(draw, SHAPES[number % len(SHAPES)]) for number in range(160)]
        lots = {}
        for query in queries:
            lots.setdefault(form_of(query), []).append(query)
        for one, other in itertools.product(queries, queries):
            self.assertEqual(are_same(one, other), form_of(one) == form_of(other))
        firsts = [lot[0] for lot in lots.values()]
        for one, other in itertools.combinations(firsts, 2):
            self.assert_apart(one, other)
        self.assertGreater(len(firsts), 80)


SMALL = Kinds({"a": ("k", "v"), "b": ("k",)})
SMALL_SETS = ([(0, 0)], [(1, 1)], [(0, 1)])


def small_events(query):
    """All events of few numbers at near times that the query lets through, in times and ids so many as count."""
    sides = [getattr(query, name) for name in ("side", "first", "second") if hasattr(query, name)]
    found = [("a", time, number, k, v) for time in (0, 1, 2) for number in (0, 1) for k in (0, 1) for v in (0, 1)]
    found += [("b", time, number, k) for time in (0, 1, 2) for number in (0, 1) for k in (0, 1)]
    return [event for event in found if any(plain.is_let(side, event) for side in sides)]


class SmallTest(SameCase):
    """All sets of up to three events over small finite sets, at near times."""

    def draw_small(self, draw):
        """Queries whose numbers are all 0 or 1, and which three events at near times can tell apart."""
        a = Side(SMALL, "a", {field: draw.choice(SMALL_SETS) for field in ("k", "v")})
        b = Side(SMALL, "b", {"k": draw.choice(SMALL_SETS)})
        by = draw.choice(((), ("k",), ("v",)))
        on = draw.choice(((), (("k", "k"),), (("v", "k"),)))
        told = [draw.choice(("k", "v", "time", "id")) for _ in range(draw.choice((0, 1, 1, 2)))]
        free = [field for field in ("k", "v") if field not in by]
        worths = [(draw.choice(("sum", "least", "greatest")), draw.choice(free)), ("count",)]
        worths = draw.sample(worths, draw.choice((0, 1, 1)))
        more = [("unlike", free[0])] if draw.random() < 0.3 else []
        shape = draw.choice(("each", "windows", "blocks", "sessions", "near", "behind", "swapped", "lonely"))
        reach = draw.randint(1, 2)
        other = ([draw.choice(("k", "time", "id"))] if draw.random() < 0.4 else [])
        return {
            "each": lambda: Each(a, told),
            "windows": lambda: Windows(a, by, reach, 1, worths + more + [("atleast", reach)]),
            "blocks": lambda: Blocks(a, by, reach, worths + more),
            "sessions": lambda: Sessions(a, by, reach, worths),
            "near": lambda: Pairs(a, b, on, "near", reach - 1, (told, other)),
            "behind": lambda: Pairs(a, b, on, "behind", reach, (told, other)),
            "swapped": lambda: Pairs(b, a, [pair[::-1] for pair in on], "near", reach - 1, (other, told)),
            "lonely": lambda: Lonely(a, b, on, reach, told),
        }[shape]()

    def test_queries_that_are_the_same_mean_the_same(self):
        draw = random.Random(393)
        lots, pairs = {}, Counter()
        for _ in range(3000):
            query = self.draw_small(draw)
            lots.setdefault(form_of(query), {})[query.form()] = query
        for lot in lots.values():
            one, *rest = lot.values()
            for other in rest[:8]:
                pairs[one.__class__] += 1
                self.assertIsNone(told_from(one, other))
                events = small_events(one) + small_events(other) or [("b", 0, 0, 0)]
                for _ in range(10):
                    letters = [("event", draw.choice(events)) for _ in range(draw.randint(1, 9))]
                    letters.insert(draw.randint(0, len(letters)), ("mark", draw.randint(0, 2)))
                    stream = plain.stream(letters)[0]
                    forms = (one.form(), other.form())
                    self.assertEqual(plain.meaning(one, stream), plain.meaning(other, stream), forms)
                    self.assertEqual(told_by(one, [*letters, ("end",)]), told_by(other, [*letters, ("end",)]))
        for shape in SHAPES:
            self.assertGreater(pairs[shape], 5, (shape, pairs))

    def test_against_a_plain_comparison_of_meanings(self):
        draw = random.Random(394)
        lots = {}
        for _ in range(300):
            query = self.draw_small(draw)
            lots.setdefault(form_of(query), {})[query.form()] = query
        shared = [list(lot.values()) for lot in lots.values() if len(lot) > 1]
        rows = [query for lot in shared[:14] for query in lot[:3]]
        rows += [query for lot in lots.values() for query in lot.values() if len(lot) == 1][:20]
        meanings = [(query, self.all_meanings(query)) for query in rows if not query.is_empty()]
        same = 0
        for (one, ones), (other, twos) in itertools.combinations(meanings, 2):
            if are_same(one, other):
                same += 1
                for query, found in ((other, ones), (one, twos)):
                    for chosen, answers in found.items():
                        self.assertEqual(plain.meaning(query, chosen), answers, (one.form(), other.form()))
            else:
                self.assert_apart(one, other, SMALL)
                self.assert_apart(other, one, SMALL)
        self.assertGreater(same, 8)

    def all_meanings(self, query):
        """The answers of all sets of up to three events that have some."""
        found = {}
        events = small_events(query)
        for many in (1, 2, 3):
            few = [event for event in events if event[2] == 0 or event[1] == 0 and many < 3 or event[1:4] == (0, 1, 0)]
            for chosen in itertools.combinations(few, many):
                answers = plain.meaning(query, chosen)
                if answers:
                    found[chosen] = answers
        return found


class GreatNumbersTest(SameCase):
    def test_great_numbers(self):
        great = 10 ** 60
        self.assert_all_unlike(
            f"each a where k {great}.. tell k", f"each a where k {great + 1}.. tell k",
            f"each a where k {great} tell k",
        )
        self.assert_all_unlike(f"sessions a gap {great}", f"sessions a gap {great + 1}")
        self.assert_all_unlike(f"pairs a with b near {great} tell /", f"pairs a with b near {great + 1} tell /",
                               f"pairs a with b behind {great} tell /")


if __name__ == "__main__":
    unittest.main()
