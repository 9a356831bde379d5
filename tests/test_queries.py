"""[6] to [14] The six shapes: their forms, their errors in their order, is_empty."""

import itertools
import unittest

from streamsure.errors import BadQuery
from streamsure.queries import Blocks, Each, Kinds, Lonely, Pairs, Sessions, Side, Windows

KINDS = Kinds({"a": ("k", "v", "w"), "b": ("k", "x"), "c": ()})
A = Side(KINDS, "a", {})
B = Side(KINDS, "b", {})
C = Side(KINDS, "c", {})
NARROW = Side(KINDS, "a", {"v": [(1, 5)]})

# the right arguments of one query of each shape, in their order
RIGHT = {
    Each: {"side": A, "told": ("v", "time", "id", "v")},
    Windows: {"side": A, "by": ("k",), "length": 10, "step": 5,
              "worths": (("count",), ("sum", "v"))},
    Blocks: {"side": A, "by": ("k",), "size": 3, "worths": (("count",), ("sum", "v"))},
    Sessions: {"side": A, "by": ("k",), "gap": 2, "worths": (("first",), ("sum", "v"))},
    Pairs: {"first": A, "second": B, "by": (("k", "k"), ("v", "x")), "mode": "near",
            "reach": 4, "told": (("v", "time"), ("id", "x"))},
    Lonely: {"first": A, "second": B, "by": (("k", "k"), ("v", "x")), "reach": 4,
             "told": ("v", "id", "time")},
}
WORDS = {Each: "each", Windows: "windows", Blocks: "blocks", Sessions: "sessions",
         Pairs: "pairs", Lonely: "lonely"}
NO_INTEGERS = (None, True, False, "1", "", (1,), [1], 1.0, b"1", {})
NO_ROWS = ("", "k", "v", "time", None, 5, True, {"k": 1}, {"k"}, b"k")
NO_NAMES = ("x", "nope", "K", "", "kv", 5, None, True, ("k",), ["k"], b"k")
NO_PAIRS = ("", "kx", ("k",), ("k", "x", "x"), (), ["k"], None, 5, {"k": 1, "x": 2}, b"kx")


def make(shape, **changed):
    return shape(*{**RIGHT[shape], **changed}.values())


class ShapeCase(unittest.TestCase):
    def assert_word(self, word, shape, **changed):
        with self.assertRaises(BadQuery) as caught:
            make(shape, **changed)
        self.assertEqual(caught.exception.word, word, (shape.__name__, changed))

    def assert_right(self, shape, **changed):
        form = make(shape, **changed).form()
        self.assertIs(type(form), tuple)
        self.assertEqual(form[0], WORDS[shape])
        hash(form)
        return form

    def assert_unlike(self, shape, rows):
        forms = [self.assert_right(shape, **changed) for changed in rows]
        self.assertEqual(len(set(forms)), len(rows))

    def assert_alike(self, shape, rows):
        forms = [self.assert_right(shape, **changed) for changed in rows]
        self.assertEqual(len(set(forms)), 1, forms)


class FormTest(ShapeCase):
    def test_each_right_one_has_its_word(self):
        for shape in RIGHT:
            self.assertEqual(self.assert_right(shape), self.assert_right(shape))

    def test_the_arguments_have_their_names(self):
        for shape, told in RIGHT.items():
            self.assertEqual(shape(**told).form(), make(shape).form())

    def test_a_form_is_made_of_tuples_words_integers_and_none(self):
        for shape in RIGHT:
            left = [make(shape).form()]
            while left:
                part = left.pop()
                self.assertIn(type(part), (tuple, str, int, type(None)))
                left.extend(part if type(part) is tuple else ())

    def test_each(self):
        self.assert_unlike(Each, [
            {}, {"side": NARROW}, {"told": ()}, {"told": ("v",)}, {"told": ("v", "v")},
            {"told": ("time", "id")}, {"told": ("id", "time")}, {"told": ("w",)},
        ])
        self.assert_right(Each, side=C, told=("time", "id", "time"))

    def test_windows(self):
        self.assert_unlike(Windows, [
            {}, {"side": NARROW}, {"by": ()}, {"by": ("w",)}, {"by": ("k", "w")},
            {"by": ("w", "k")}, {"length": 11}, {"step": 4}, {"worths": ()},
            {"worths": (("count",),)}, {"worths": (("sum", "v"), ("count",))},
            {"worths": (("count",), ("sum", "w"))}, {"worths": (("count",), ("least", "v"))},
        ])

    def test_blocks(self):
        self.assert_unlike(Blocks, [
            {}, {"side": NARROW}, {"by": ()}, {"by": ("w",)}, {"by": ("k", "w")}, {"size": 4},
            {"worths": ()}, {"worths": (("count",),)}, {"worths": (("unlike", "v"),)},
        ])

    def test_sessions(self):
        self.assert_unlike(Sessions, [
            {}, {"side": NARROW}, {"by": ()}, {"by": ("w",)}, {"by": ("k", "w")}, {"gap": 3},
            {"worths": ()}, {"worths": (("count",),)}, {"worths": (("last",),)},
        ])

    def test_pairs(self):
        self.assert_unlike(Pairs, [
            {}, {"first": NARROW}, {"second": Side(KINDS, "b", {"x": [(1, 1)]})}, {"by": ()},
            {"by": (("k", "k"),)}, {"by": (("k", "x"), ("v", "k"))}, {"mode": "behind"},
            {"reach": 5}, {"reach": 0}, {"told": ((), ())}, {"told": (("v", "time", "id"), ("x",))},
            {"told": ((), ("x",))}, {"told": (("v",), ())},
            {"second": C, "by": (), "told": (("v", "time"), ("id", "time"))},
        ])

    def test_lonely(self):
        self.assert_unlike(Lonely, [
            {}, {"first": NARROW}, {"second": Side(KINDS, "b", {"x": [(1, 1)]})}, {"by": ()},
            {"by": (("k", "k"),)}, {"by": (("k", "x"),)}, {"reach": 5}, {"told": ()},
            {"told": ("v",)}, {"second": C, "by": ()},
        ])

    def test_shapes_with_like_arguments_have_unlike_forms(self):
        forms = [
            Blocks(A, ("k",), 3, (("count",),)).form(), Sessions(A, ("k",), 3, (("count",),)).form(),
            Windows(A, ("k",), 3, 3, (("count",),)).form(), Each(A, ("k",)).form(),
            Pairs(A, B, (), "behind", 3, ((), ())).form(), Lonely(A, B, (), 3, ()).form(),
        ]
        self.assertEqual(len(set(forms)), len(forms))

    def test_sides_told_in_several_ways_give_one_form(self):
        for where in ({"v": [[4, 5], [1, 3]]}, {"k": [(None, None)], "v": ((1, 5), (9, 8))}):
            side = Side(KINDS, "a", where)
            for shape in (Each, Windows, Blocks, Sessions):
                self.assertEqual(make(shape, side=side).form(), make(shape, side=NARROW).form())
            for shape in (Pairs, Lonely):
                self.assertEqual(make(shape, first=side).form(), make(shape, first=NARROW).form())


class RowsTest(ShapeCase):
    def test_lists_and_tuples_are_alike(self):
        self.assert_alike(Each, [{}, {"told": ["v", "time", "id", "v"]}])
        for shape in (Windows, Blocks):
            self.assert_alike(shape, [
                {}, {"by": ["k"]}, {"worths": [("count",), ("sum", "v")]},
                {"by": ["k"], "worths": (["count"], ["sum", "v"])},
            ])
        self.assert_alike(Sessions, [{}, {"by": ["k"], "worths": [("first",), ("sum", "v")]}])
        self.assert_alike(Pairs, [
            {}, {"by": [["k", "k"], ["v", "x"]]}, {"by": (["k", "k"], ("v", "x"))},
            {"told": [["v", "time"], ["id", "x"]]}, {"told": (["v", "time"], ("id", "x"))},
        ])
        self.assert_alike(Lonely, [
            {}, {"by": [["k", "k"], ("v", "x")], "told": ["v", "id", "time"]},
        ])

    def test_what_is_handed_in_is_left_alone_and_not_kept(self):
        by = ["k"]
        worths = [["sum", "v"]]
        query = Windows(A, by, 4, 4, worths)
        before = query.form()
        by.append("w")
        worths[0][1] = "w"
        worths.append(["count"])
        self.assertEqual(query.form(), before)
        pairs = [["k", "k"]]
        told = [["v"], ["x"]]
        query = Pairs(A, B, pairs, "near", 4, told)
        before = query.form()
        pairs[0][1] = "x"
        told[0].append("time")
        self.assertEqual(query.form(), before)

    def test_texts_are_no_rows(self):
        for row in NO_ROWS:
            self.assert_word("field", Each, told=row)
            for shape in (Windows, Blocks, Sessions):
                self.assert_word("field", shape, by=row)
                self.assert_word("worth", shape, worths=row)
            for shape in (Pairs, Lonely):
                self.assert_word("key", shape, by=row)
            self.assert_word("field", Pairs, told=row)
            self.assert_word("field", Pairs, told=(row, ()))
            self.assert_word("field", Pairs, told=((), row))
            self.assert_word("field", Lonely, told=row)


class KindTest(ShapeCase):
    def test_two_sides_of_one_kind(self):
        for shape in (Pairs, Lonely):
            self.assert_word("kind", shape, second=A)
            self.assert_word("kind", shape, second=NARROW)
            self.assert_word("kind", shape, first=B)
            self.assert_word("kind", shape, first=C, second=C, by=())

    def test_the_kind_comes_first(self):
        for shape in (Pairs, Lonely):
            self.assert_word("kind", shape, second=A, by="kx")
            self.assert_word("kind", shape, second=A, by=(("nope", "k"),))
            self.assert_word("kind", shape, second=A, reach=-1)
            self.assert_word("kind", shape, second=A, told="v")
        self.assert_word("kind", Pairs, second=A, mode="nope")


class KeyTest(ShapeCase):
    def test_no_row_of_pairs(self):
        for shape in (Pairs, Lonely):
            for pair in NO_PAIRS:
                self.assert_word("key", shape, by=(pair,))
                self.assert_word("key", shape, by=[("k", "k"), pair])
            self.assert_word("key", shape, by=("k", "k"))

    def test_the_key_comes_ahead_of_its_fields_and_all_else(self):
        for shape in (Pairs, Lonely):
            self.assert_word("key", shape, by=(("nope", "k"), "kx"))
            self.assert_word("key", shape, by=(("k", "k"), ("k", "k"), ("v",)))
            self.assert_word("key", shape, by="kx", reach=-1)
            self.assert_word("key", shape, by="kx", told="v")
        self.assert_word("key", Pairs, by="kx", mode="nope")


class FieldOfKeyTest(ShapeCase):
    def test_no_field_of_the_side(self):
        for shape in (Windows, Blocks, Sessions):
            for name in NO_NAMES + ("time", "id"):
                self.assert_word("field", shape, by=(name,))
                self.assert_word("field", shape, by=["k", name])

    def test_no_field_of_one_of_two_sides(self):
        for shape in (Pairs, Lonely):
            for name in NO_NAMES + ("time", "id"):
                self.assert_word("field", shape, by=((name, "k"),))
            for name in NO_NAMES[1:] + ("v", "time", "id"):
                self.assert_word("field", shape, by=(("k", name),))
                self.assert_word("field", shape, by=(("v", "x"), ("k", name)))

    def test_the_fields_come_ahead_of_twice_and_all_behind(self):
        for shape in (Windows, Blocks, Sessions):
            self.assert_word("field", shape, by=("k", "k", "nope"))
            self.assert_word("field", shape, by=("nope", "nope"))
            self.assert_word("field", shape, by=("nope",), worths="count")
        self.assert_word("field", Windows, by=("nope",), length=0)
        self.assert_word("field", Windows, by=("nope",), step=0)
        self.assert_word("field", Blocks, by=("nope",), size=0)
        self.assert_word("field", Sessions, by=("nope",), gap=0)
        for shape in (Pairs, Lonely):
            self.assert_word("field", shape, by=(("k", "k"), ("k", "x"), ("v", "nope")))
            self.assert_word("field", shape, by=(("k", "k"), ("v", "k"), ("nope", "x")))
            self.assert_word("field", shape, by=(("nope", "k"),), reach=-1)
        self.assert_word("field", Pairs, by=(("nope", "k"),), mode="nope")


class TwiceTest(ShapeCase):
    def test_a_field_of_a_key_twice(self):
        for shape in (Windows, Blocks, Sessions):
            self.assert_word("twice", shape, by=("k", "k"))
            self.assert_word("twice", shape, by=["k", "w", "k"])
        for shape in (Pairs, Lonely):
            self.assert_word("twice", shape, by=(("k", "k"), ("k", "x")))
            self.assert_word("twice", shape, by=(("k", "k"), ("v", "k")))
            self.assert_word("twice", shape, by=(("k", "k"), ("k", "k")))

    def test_one_name_on_both_sides_is_not_twice(self):
        for shape in (Pairs, Lonely):
            self.assert_right(shape, by=(("k", "k"),))

    def test_twice_comes_ahead_of_all_behind(self):
        for shape in (Windows, Blocks, Sessions):
            self.assert_word("twice", shape, by=("k", "k"), worths="count")
        self.assert_word("twice", Windows, by=("k", "k"), length=0)
        self.assert_word("twice", Windows, by=("k", "k"), step=0)
        self.assert_word("twice", Blocks, by=("k", "k"), size=0)
        self.assert_word("twice", Sessions, by=("k", "k"), gap=0)
        for shape in (Pairs, Lonely):
            self.assert_word("twice", shape, by=(("k", "k"), ("k", "x")), reach=-1)
            self.assert_word("twice", shape, by=(("k", "k"), ("v", "k")), told="v")
        self.assert_word("twice", Pairs, by=(("k", "k"), ("k", "x")), mode="nope")


class NumbersTest(ShapeCase):
    def test_modes(self):
        self.assert_right(Pairs, mode="behind")
        for mode in ("", "Near", "nears", "ahead", None, 0, True, ("near",), ["near"], b"near"):
            self.assert_word("mode", Pairs, mode=mode)
            self.assert_word("mode", Pairs, mode=mode, reach=-1)
            self.assert_word("mode", Pairs, mode=mode, told="v")

    def test_no_integers(self):
        for thing in NO_INTEGERS:
            self.assert_word("length", Windows, length=thing)
            self.assert_word("step", Windows, step=thing)
            self.assert_word("size", Blocks, size=thing)
            self.assert_word("gap", Sessions, gap=thing)
            self.assert_word("reach", Pairs, reach=thing)
            self.assert_word("reach", Pairs, mode="behind", reach=thing)
            self.assert_word("reach", Lonely, reach=thing)

    def test_the_least_ones(self):
        self.assert_right(Windows, length=1, step=1)
        self.assert_right(Blocks, size=1)
        self.assert_right(Sessions, gap=1)
        self.assert_right(Pairs, reach=0)
        self.assert_right(Pairs, mode="behind", reach=1)
        self.assert_right(Lonely, reach=1)

    def test_numbers_of_many_figures(self):
        many = 10**40
        self.assert_right(Windows, length=many, step=many)
        self.assert_right(Blocks, size=many)
        self.assert_right(Sessions, gap=many)
        self.assert_right(Pairs, reach=many)
        self.assert_right(Lonely, reach=many)

    def test_too_small(self):
        for number in (0, -1, -(10**40)):
            self.assert_word("length", Windows, length=number)
            self.assert_word("length", Windows, length=number, step=number)
            self.assert_word("step", Windows, step=number)
            self.assert_word("size", Blocks, size=number)
            self.assert_word("gap", Sessions, gap=number)
            self.assert_word("reach", Pairs, mode="behind", reach=number)
            self.assert_word("reach", Lonely, reach=number)
        self.assert_word("reach", Pairs, reach=-1)

    def test_a_step_above_the_length(self):
        self.assert_right(Windows, length=10, step=10)
        self.assert_word("step", Windows, length=10, step=11)
        self.assert_word("step", Windows, length=1, step=2)

    def test_they_come_ahead_of_what_is_told(self):
        worths = ({"worths": "count"}, {"worths": (("sum", "nope"),)}, {"worths": (("sum", "k"),)})
        for later in worths:
            self.assert_word("length", Windows, length=0, **later)
            self.assert_word("step", Windows, step=11, **later)
            self.assert_word("size", Blocks, size=0, **later)
            self.assert_word("gap", Sessions, gap=0, **later)
        self.assert_word("reach", Pairs, reach=-1, told="v")
        self.assert_word("reach", Lonely, reach=0, told="v")


class ToldTest(ShapeCase):
    def test_names_that_may_stand(self):
        for name in ("k", "v", "w", "time", "id"):
            self.assert_right(Each, told=(name, name))
            self.assert_right(Lonely, told=(name, name))
            self.assert_right(Pairs, told=((name, name), ()))
        for name in ("k", "x", "time", "id"):
            self.assert_right(Pairs, told=((), (name, name)))

    def test_names_that_may_not_stand(self):
        for name in NO_NAMES:
            self.assert_word("field", Each, told=(name,))
            self.assert_word("field", Each, told=["v", name])
            self.assert_word("field", Lonely, told=(name,))
            self.assert_word("field", Pairs, told=((name,), ()))
        for name in NO_NAMES[1:] + ("v", "w"):
            self.assert_word("field", Pairs, told=((), (name,)))
            self.assert_word("field", Pairs, told=(("v",), ("x", name)))

    def test_told_of_pairs_is_no_pair(self):
        for told in ((), (("v",),), (("v",), ("x",), ()), [("v",)], "vx", "ab", None, 5, {}):
            self.assert_word("field", Pairs, told=told)


class WorthsTest(ShapeCase):
    BARRED = {
        Windows: (),
        Blocks: ("first", "last", "atleast"),
        Sessions: ("atleast", "unlike"),
    }
    WORTHS = (
        ("count",), ("atleast", 1), ("atleast", 10**40), ("sum", "v"), ("least", "v"),
        ("greatest", "w"), ("unlike", "v"), ("first",), ("last",),
    )
    NONE = (
        "count", "", "sum", None, 5, True, {}, (), [], ("nope",), ("Count",), ("",), (None,), (5,),
        (("count",),), (["count"],), ("count", "v"), ("count", 1), ("count", None), ("first", "v"),
        ("last", 0), ("sum",), ("least",), ("greatest",), ("unlike",), ("sum", "v", "w"),
        ("least", "v", None), ("atleast",), ("atleast", 1, 2), ("each", "v"), ("nope", 1), ("time",),
        ("", 2), b"count",
    )

    def test_each_worth_where_it_may_stand(self):
        for shape, barred in self.BARRED.items():
            for worth in self.WORTHS:
                if worth[0] in barred:
                    self.assert_word("worth", shape, worths=(worth,))
                    self.assert_word("worth", shape, worths=[("count",), worth])
                else:
                    self.assert_right(shape, worths=(worth,))
                    self.assert_right(shape, worths=[worth, worth])

    def test_no_worths(self):
        for shape in self.BARRED:
            for worth in self.NONE:
                self.assert_word("worth", shape, worths=(worth,))
                self.assert_word("worth", shape, worths=[("count",), worth])

    def test_the_number_of_atleast(self):
        for number in NO_INTEGERS + (0, -1, "v", "k"):
            for shape in self.BARRED:
                self.assert_word("worth", shape, worths=(("atleast", number),))

    def test_no_field(self):
        for shape, barred in self.BARRED.items():
            for word in ("sum", "least", "greatest", "unlike"):
                for name in NO_NAMES + ("time", "id"):
                    wanted = "worth" if word in barred else "field"
                    self.assert_word(wanted, shape, worths=((word, name),))
                    self.assert_word(wanted, shape, worths=(("count",), (word, name)))

    def test_a_field_of_the_key(self):
        for shape, barred in self.BARRED.items():
            for word in ("sum", "least", "greatest", "unlike"):
                wanted = "worth" if word in barred else "key"
                self.assert_word(wanted, shape, worths=((word, "k"),))
                self.assert_word(wanted, shape, by=("w", "v"), worths=((word, "v"),))
                if word not in barred:
                    self.assert_right(shape, by=(), worths=((word, "k"),))

    def test_worth_by_worth(self):
        wrong = {"worth": ("nope",), "field": ("sum", "nope"), "key": ("sum", "k")}
        for shape in self.BARRED:
            for one, other in itertools.permutations(wrong, 2):
                self.assert_word(one, shape, worths=(wrong[one], wrong[other]))
                self.assert_word(one, shape, worths=(("count",), wrong[one], wrong[other]))


class EmptyTest(ShapeCase):
    def sides(self, kind, fields):
        """Sides of which some are empty, each with whether it is."""
        yield Side(KINDS, kind, {}), False
        for field in fields:
            yield Side(KINDS, kind, {field: [(4, 4), (1, 2)]}), False
            yield Side(KINDS, kind, {field: [(None, 0)]}), False
            yield Side(KINDS, kind, {field: []}), True
            yield Side(KINDS, kind, {field: [(2, 1), (9, 3)]}), True
            yield Side(KINDS, kind, {fields[0]: [(1, 1)], field: ()}), True

    def test_shapes_of_one_side(self):
        for shape in (Each, Windows, Blocks, Sessions):
            for side, is_empty in self.sides("a", ("k", "v", "w")):
                self.assertIs(make(shape, side=side).is_empty(), is_empty)

    def test_a_kind_without_fields_is_never_empty(self):
        self.assertIs(Each(C, ()).is_empty(), False)
        self.assertIs(Pairs(C, B, (), "near", 0, ((), ())).is_empty(), False)

    def test_lonely_hangs_on_the_first_side_alone(self):
        for first, is_empty in self.sides("a", ("k", "v", "w")):
            for second, _ in self.sides("b", ("k", "x")):
                for by in ((), (("k", "k"), ("v", "x"))):
                    query = make(Lonely, first=first, second=second, by=by)
                    self.assertIs(query.is_empty(), is_empty)

    def test_lonely_events_whose_key_fits_nothing(self):
        first = Side(KINDS, "a", {"k": [(1, 2)]})
        second = Side(KINDS, "b", {"k": [(3, 4)]})
        self.assertIs(make(Lonely, first=first, second=second).is_empty(), False)

    def test_pairs_hang_on_both_sides(self):
        for first, one in self.sides("a", ("k", "v", "w")):
            for second, other in self.sides("b", ("k", "x")):
                query = make(Pairs, first=first, second=second, by=())
                self.assertIs(query.is_empty(), one or other)

    def test_keys_that_cannot_be_on_both_sides(self):
        rows = [
            ([(1, 2)], [(3, 4)], True), ([(1, 2)], [(2, 4)], False), ([(1, 2)], [(0, 0)], True),
            ([(None, 2)], [(3, None)], True), ([(None, 3)], [(3, None)], False),
            ([(1, 1), (3, 3), (5, 5)], [(2, 2), (4, 4)], True),
            ([(1, 1), (3, 3), (5, 5)], [(2, 2), (5, 9)], False),
            ([(10**40, None)], [(None, 10**40 - 1)], True),
        ]
        for one, other, is_empty in rows:
            first = Side(KINDS, "a", {"v": one})
            second = Side(KINDS, "b", {"x": other})
            for mode in ("near", "behind"):
                for by in ((("v", "x"),), (("k", "k"), ("v", "x")), (("v", "x"), ("k", "k"))):
                    query = make(Pairs, first=first, second=second, by=by, mode=mode)
                    self.assertIs(query.is_empty(), is_empty)
                for by in ((), (("k", "k"),), (("k", "x"),), (("v", "k"),)):
                    query = make(Pairs, first=first, second=second, by=by, mode=mode)
                    self.assertIs(query.is_empty(), False)


if __name__ == "__main__":
    unittest.main()
