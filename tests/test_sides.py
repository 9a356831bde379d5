"""[5] Sides: their errors in their order, and that each has one form."""

import itertools
import unittest

from streamsure.errors import BadQuery
from streamsure.queries import Kinds, Side

KINDS = Kinds({"a": ("k", "v"), "b": ("w",), "c": ()})


class FormTest(unittest.TestCase):
    def assert_alike(self, kind, wheres):
        forms = [Side(KINDS, kind, where).form() for where in wheres]
        for form in forms:
            self.assertEqual(form, forms[0])
            self.assertIs(type(form), tuple)
            hash(form)

    def test_fields_that_are_not_asked_for_may_be_anything(self):
        self.assert_alike("a", [
            {},
            {"k": [(None, None)]},
            {"v": ((None, None),), "k": [[None, None]]},
            {"v": [(None, 3), (4, None)]},
            {"k": [(2, None), (None, 0), (1, 1)]},
        ])

    def test_one_set_told_in_several_ways(self):
        pairs = [(3, 4), (5, 6), (9, 9)]
        wheres = [{"v": list(order)} for order in itertools.permutations(pairs)]
        self.assert_alike("a", wheres + [
            {"v": ((3, 6), (9, 9))},
            {"v": [[3, 6], [9, 9]]},
            {"v": ((3, 6), [9, 9], (8, 7))},
            {"v": [(3, 5), (4, 6), (9, 9), (9, 9)], "k": [(None, None)]},
        ])

    def test_no_number_told_in_several_ways(self):
        self.assert_alike("a", [{"k": []}, {"k": ()}, {"k": [(1, 0)]}, {"k": ((5, 3), [0, -1])}])

    def test_the_order_of_the_entries_is_free(self):
        self.assert_alike("a", [
            {"k": [(1, 2)], "v": [(3, 4)]}, {"v": [(3, 4)], "k": [(1, 2)]},
        ])

    def test_unlike_sides_have_unlike_forms(self):
        sides = [
            ("a", {}), ("b", {}), ("c", {}), ("a", {"k": [(1, 2)]}), ("a", {"v": [(1, 2)]}),
            ("a", {"k": [(1, 3)]}), ("a", {"k": [(1, None)]}), ("a", {"k": [(None, 1)]}),
            ("a", {"k": ()}), ("a", {"v": ()}), ("a", {"k": [(1, 1), (3, 3)]}),
            ("a", {"k": [(1, 2)], "v": [(1, 2)]}), ("b", {"w": [(1, 2)]}), ("b", {"w": ()}),
        ]
        forms = [Side(KINDS, kind, where).form() for kind, where in sides]
        self.assertEqual(len(set(forms)), len(sides))

    def test_numbers_of_many_figures(self):
        self.assert_alike("b", [
            {"w": [(-(10**50), 10**50)]}, {"w": [(1, 10**50), (-(10**50), 0)]},
        ])

    def test_what_is_handed_in_is_left_alone_and_not_kept(self):
        where = {"v": [[5, 6], [3, 4]]}
        side = Side(KINDS, "a", where)
        self.assertEqual(where, {"v": [[5, 6], [3, 4]]})
        before = side.form()
        where["v"].append([9, 9])
        where["v"][0][1] = 7
        where["k"] = []
        self.assertEqual(side.form(), before)


class ErrorsTest(unittest.TestCase):
    def assert_word(self, word, kind, where):
        with self.assertRaises(BadQuery) as caught:
            Side(KINDS, kind, where)
        self.assertEqual(caught.exception.word, word, (kind, where))

    def test_no_such_kind(self):
        for kind in ("d", "", "A", "k", "ab", 5, None, True, ("a",), ["a"], b"a", {}):
            self.assert_word("kind", kind, {})

    def test_no_such_field(self):
        for field in ("w", "", "K", "kv", "time", "id", "a", 5, None, True, ("k",), b"k"):
            self.assert_word("field", "a", {field: [(1, 2)]})
        self.assert_word("field", "c", {"k": [(1, 2)]})
        self.assert_word("field", "b", {"w": [(1, 2)], "v": []})

    def test_no_row_of_intervals(self):
        for pairs in (
            None, 5, "", "3", "3..4", "ab", True, {}, {(1, 2): 3}, b"ab", (1, 2), [1, 2], [3],
            [(1, 2, 3)], [(1,)], [()], ["12"], ["ab"], [b"ab"], [None], [(1, 2), None],
            [(1, 2), 3], [("1", 2)], [(1, "2")], [(1, 2.0)], [(True, 2)], [(1, False)],
            [(1, 2), (3, True)], [(1, (2,))], [{1: 2, 3: 4}], ((1, 2), [3]),
        ):
            self.assert_word("set", "a", {"k": pairs})
            self.assert_word("set", "a", {"k": [(1, 2)], "v": pairs})

    def test_the_kind_comes_ahead_of_the_entries(self):
        self.assert_word("kind", "d", {"nope": 5})
        self.assert_word("kind", "d", {"k": 5})

    def test_the_entries_come_in_their_order(self):
        self.assert_word("field", "a", {"nope": [(1, 2)], "k": 5})
        self.assert_word("set", "a", {"k": 5, "nope": [(1, 2)]})
        self.assert_word("set", "a", {"v": 5, "nope": 5, "k": [(1, 2)]})
        self.assert_word("field", "a", {"k": [(1, 2)], "nope": 5, "v": 5})

    def test_a_field_comes_ahead_of_its_set(self):
        self.assert_word("field", "a", {"nope": 5})
        self.assert_word("field", "a", {"time": "3..4"})


if __name__ == "__main__":
    unittest.main()
