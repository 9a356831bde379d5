"""[3] Kinds of events, and what is an event."""

import unittest

from streamsure.errors import BadQuery
from streamsure.queries import Kinds


class WrongCase(unittest.TestCase):
    def assert_word(self, word, fields):
        with self.assertRaises(BadQuery) as caught:
            Kinds(fields)
        self.assertEqual(caught.exception.word, word, fields)


class FieldsTest(WrongCase):
    def test_fields_are_a_dict_of_tuples_kinds_ascending(self):
        told = {"sale": ["shop", "price"], "b": (), "order": ("shop",), "a": []}
        found = Kinds(told).fields
        self.assertIs(type(found), dict)
        self.assertEqual(
            list(found.items()),
            [("a", ()), ("b", ()), ("order", ("shop",)), ("sale", ("shop", "price"))],
        )
        for names in found.values():
            self.assertIs(type(names), tuple)

    def test_fields_keep_the_order_in_which_they_are_named(self):
        self.assertEqual(Kinds({"a": ["z", "y", "x"]}).fields, {"a": ("z", "y", "x")})

    def test_what_is_handed_in_is_left_alone_and_not_kept(self):
        told = {"b": ["x"], "a": ["y"]}
        kinds = Kinds(told)
        self.assertEqual(list(told.items()), [("b", ["x"]), ("a", ["y"])])
        told["b"].append("z")
        told["c"] = []
        self.assertEqual(kinds.fields, {"a": ("y",), "b": ("x",)})

    def test_no_kinds_at_all(self):
        self.assertEqual(Kinds({}).fields, {})

    def test_names_of_1_and_12_letters(self):
        for name in ("a", "z", "m" * 12, "abcdefghijkl"):
            self.assertEqual(Kinds({name: [name]}).fields, {name: (name,)})

    def test_two_kinds_may_have_fields_of_one_name(self):
        self.assertEqual(Kinds({"a": ("k",), "b": ("k",)}).fields, {"a": ("k",), "b": ("k",)})

    def test_a_kind_may_be_called_as_a_field_or_as_time_or_id(self):
        told = {"a": ("a",), "id": ("x",), "time": ("time" + "s",)}
        self.assertEqual(Kinds(told).fields, told)

    def test_words_of_the_book_language_are_names(self):
        told = {"kind": ("query", "where"), "tell": ("on",)}
        self.assertEqual(Kinds(told).fields, told)


class BadNamesTest(WrongCase):
    BAD = (
        "", "m" * 13, "A", "aB", "a1", "1", "a_b", "a b", " a", "a ", "a-b", "a\n", "\u00e4",
        "a\u00e4", "\u0430", "\u00aa", "a.b", "a:b", "-", "{", "`",
    )

    def test_names_of_kinds(self):
        for name in self.BAD + (5, None, True, ("a",), b"a"):
            self.assert_word("name", {name: ()})
            self.assert_word("name", {"a": ("x",), name: (), "b": ("x",)})

    def test_names_of_fields(self):
        for name in self.BAD + (5, None, True, ("a",), ["a"], b"a", "time", "id"):
            self.assert_word("name", {"a": (name,)})
            self.assert_word("name", {"a": ["x", name]})

    def test_a_text_or_no_row_is_no_row_of_names(self):
        for names in ("x", "xy", "", None, 5, {"x": 1}, b"x"):
            self.assert_word("name", {"a": names})

    def test_one_field_named_twice(self):
        self.assert_word("twice", {"a": ("x", "x")})
        self.assert_word("twice", {"a": ["x", "y", "z", "y"]})
        self.assert_word("twice", {"a": ("x",), "b": ("x", "x")})


class TwoFaultsTest(WrongCase):
    def test_a_name_ahead_of_twice_in_one_kind(self):
        self.assert_word("name", {"a": ("x", "x", "Y")})
        self.assert_word("name", {"a": ("Y", "x", "x")})
        self.assert_word("name", {"a": ("time", "time")})
        self.assert_word("name", {"a": ("Y", "Y")})
        self.assert_word("name", {"aB": ("x", "x")})

    def test_the_lesser_kind_ahead_of_the_greater_one(self):
        self.assert_word("twice", {"a": ("x", "x"), "b": ("Y",)})
        self.assert_word("twice", {"b": ("Y",), "a": ("x", "x")})
        self.assert_word("name", {"a": ("Y",), "b": ("x", "x")})
        self.assert_word("name", {"b": ("x", "x"), "a": ("Y",)})

    def test_wrong_kinds_stand_where_they_ascend(self):
        self.assert_word("name", {"b": ("x", "x"), "B": ()})
        self.assert_word("twice", {"c_": (), "b": ("x", "x")})
        self.assert_word("name", {"b": ("x", "x"), "": ()})
        self.assert_word("twice", {"n" * 13: (), "n": ("x", "x")})


class EventsTest(unittest.TestCase):
    def setUp(self):
        self.kinds = Kinds({"sale": ("shop", "price"), "tick": ()})

    def test_events(self):
        for thing in (
            ("sale", 3, 0, 7, 5), ("sale", 0, 0, 0, 0), ("sale", 0, -1, -7, -5), ("tick", 0, 0),
            ("tick", 10**50, -(10**50)), ("sale", 10**50, 10**50, 10**50, -(10**50)),
        ):
            self.assertIs(self.kinds.is_event(thing), True, thing)

    def test_wrong_kinds(self):
        for kind in (
            "sales", "sal", "", "Sale", "shop", 5, None, True, b"sale", ("sale",), ["sale"], {}
        ):
            self.assertIs(self.kinds.is_event((kind, 3, 0, 7, 5)), False, kind)
            self.assertIs(self.kinds.is_event((kind, 3, 0)), False, kind)

    def test_the_fields_of_another_kind(self):
        self.assertIs(self.kinds.is_event(("tick", 3, 0, 7, 5)), False)
        self.assertIs(self.kinds.is_event(("sale", 3, 0)), False)

    def test_too_few_and_too_many_numbers(self):
        whole = ("sale", 3, 0, 7, 5, 6, 7)
        for many in (0, 1, 2, 3, 4, 6, 7):
            self.assertIs(self.kinds.is_event(whole[:many]), False, whole[:many])
        for many in (0, 1, 2, 4, 5):
            self.assertIs(self.kinds.is_event(("tick", 1, 1, 1, 1)[:many]), False, many)

    def test_times_below_0(self):
        for time in (-1, -(10**50)):
            self.assertIs(self.kinds.is_event(("sale", time, 0, 7, 5)), False)
            self.assertIs(self.kinds.is_event(("tick", time, 0)), False)

    def test_what_is_no_integer_at_each_place(self):
        right = ("sale", 3, 0, 7, 5)
        for place in range(1, 5):
            for wrong in (True, False, "5", "", None, (5,), [5], 5.0, b"5", {}, float("nan")):
                thing = right[:place] + (wrong,) + right[place + 1:]
                self.assertIs(self.kinds.is_event(thing), False, thing)

    def test_what_is_no_tuple(self):
        for thing in (
            ["sale", 3, 0, 7, 5], ["tick", 3, 0], "sale", "sale 3 0 7 5", "", 5, None, True, 0,
            (), [], {}, {"sale": 3}, {"sale", 3, 0, 7, 5}, b"sale", 5.0, object(), Kinds,
            self.kinds, ("event", ("sale", 3, 0, 7, 5)), (("sale", 3, 0, 7, 5),),
        ):
            self.assertIs(self.kinds.is_event(thing), False, thing)

    def test_without_kinds_there_is_no_event(self):
        self.assertIs(Kinds({}).is_event(("tick", 3, 0)), False)
        self.assertIs(Kinds({}).is_event(()), False)


if __name__ == "__main__":
    unittest.main()
