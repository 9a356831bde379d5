"""[37] Trees of tests: where they bring events, and with how many tests."""

import itertools
import random
import unittest

from streamsure.queries import Blocks, Each, Kinds, Lonely, Pairs, Sessions, Side, Windows
from streamsure.routing import lot_of, most_tests, tests_bound, tree_for, walked
from tests import plain

ALL_KINDS = {"a": ("k", "v", "w"), "b": ("k", "x"), "c": ()}


def sides_of(query):
    return [getattr(query, name) for name in ("side", "first", "second") if hasattr(query, name)]


def plain_lot(queries, event):
    """The queries of which a side lets an event through."""
    return tuple(number for number, query in enumerate(queries)
                 if any(plain.is_let(side, event) for side in sides_of(query)))


def plain_cuts(kinds, queries, kind):
    """For each field of a kind the numbers at which what its sets let through changes, counted number by number."""
    found = []
    for field in range(len(kinds.fields[kind])):
        cuts = set()
        for side in [side for query in queries for side in sides_of(query)]:
            if side.kind == kind and not any(one == () for one in side.sets):
                inner = {number for low, high in side.sets[field] for number in range(
                    -200 if low is None else low, 200 if high is None else high + 1)}
                cuts |= {number for number in range(-199, 200) if (number in inner) != (number - 1 in inner)}
        found.append(sorted(cuts))
    return found


def grid(kinds, queries):
    """An event for each way in which fields can lie between all cuts."""
    for kind in kinds.fields:
        rows = [sorted({0, *cuts, *[cut - 1 for cut in cuts]}) for cuts in plain_cuts(kinds, queries, kind)]
        for numbers in itertools.product(*rows):
            yield (kind, 3, -1, *numbers)


def draw_intervals(draw):
    chance = draw.random()
    if chance < 0.25:
        return [(None, None)]
    if chance < 0.31:
        return []
    found = []
    for _ in range(draw.choice((1, 1, 2, 3))):
        low = draw.randint(-9, 9)
        high = low + draw.choice((0, 0, 1, 2, 5))
        found.append((draw.choice((low, low, low, None)), draw.choice((high, high, high, None))))
    return found


def draw_side(draw, kinds, kind):
    return Side(kinds, kind, {field: draw_intervals(draw) for field in kinds.fields[kind] if draw.random() < 0.7})


def draw_queries(draw, kinds, many):
    """So many queries of all shapes."""
    found = []
    for _ in range(many):
        side = draw_side(draw, kinds, draw.choice(sorted(kinds.fields)))
        others = [kind for kind in kinds.fields if kind != side.kind]
        shape = draw.choice((Each, Windows, Blocks, Sessions, Pairs, Lonely) if others else (Each, Windows, Blocks))
        second = draw_side(draw, kinds, draw.choice(others)) if others else None
        is_joined = second and second.fields and side.fields and draw.random() < 0.5
        on = [(side.fields[0], second.fields[0])] if is_joined else []
        found.append({
            Each: lambda: Each(side, ["time"]), Windows: lambda: Windows(side, [], 5, 3, [("count",)]),
            Blocks: lambda: Blocks(side, [], 2, []), Sessions: lambda: Sessions(side, [], 2, []),
            Pairs: lambda: Pairs(side, second, on, "near", 2, ([], [])),
            Lonely: lambda: Lonely(side, second, on, 2, []),
        }[shape]())
    return found


def draw_case(draw):
    names = draw.choice((("a",), ("b",), ("c",), ("a", "b"), ("b", "c"), ("a", "b", "c"), ("a", "b", "c")))
    kinds = Kinds({name: ALL_KINDS[name] for name in names})
    return kinds, draw_queries(draw, kinds, draw.choice((0, 1, 2, 3, 5, 9)))


def is_node(node, many, many_fields):
    """Whether a thing is a node of a tree of tests, for so many queries and fields."""
    if type(node) is not tuple:
        return False
    if node[0] == "lot":
        numbers = node[1]
        return (len(node) == 2 and type(numbers) is tuple and list(numbers) == sorted(set(numbers))
                and set(numbers) <= set(range(many)))
    return (len(node) == 5 and node[0] == "below" and node[1] in range(3, 3 + many_fields)
            and type(node[2]) is int and all(is_node(part, many, many_fields) for part in node[3:]))


def plain_walk(node, event):
    many = 0
    while node[0] == "below":
        node = node[3] if event[node[1]] < node[2] else node[4]
        many += 1
    return node[1], many


def plain_most(node):
    return 0 if node[0] == "lot" else 1 + max(plain_most(node[3]), plain_most(node[4]))


class TreeTest(unittest.TestCase):
    def assert_right(self, kinds, queries):
        tree = tree_for(kinds, queries)
        self.assertEqual(list(tree), list(kinds.fields))
        for kind, node in tree.items():
            self.assertTrue(is_node(node, len(queries), len(kinds.fields[kind])), node)
            bound = sum(len(cuts).bit_length() for cuts in plain_cuts(kinds, queries, kind))
            self.assertEqual(tests_bound(kinds, queries, kind), bound)
            self.assertEqual(most_tests(node), plain_most(node))
            self.assertLessEqual(most_tests(node), bound)
        most = {kind: 0 for kind in tree}
        for event in grid(kinds, queries):
            lot, many = walked(tree, event)
            self.assertEqual(lot, plain_lot(queries, event), (event, [query.form() for query in queries]))
            self.assertEqual((lot, many), plain_walk(tree[event[0]], event))
            self.assertEqual(lot_of(tree, event), lot)
            most[event[0]] = max(most[event[0]], many)
        # each way is taken by an event of the grid, since it is one of some events
        self.assertEqual(most, {kind: most_tests(node) for kind, node in tree.items()})

    def test_drawn_queries_over_one_to_three_kinds(self):
        draw = random.Random(37)
        for _ in range(120):
            self.assert_right(*draw_case(draw))

    def test_no_queries(self):
        kinds = Kinds(ALL_KINDS)
        self.assertEqual(tree_for(kinds, []), {kind: ("lot", ()) for kind in "abc"})
        self.assertEqual([tests_bound(kinds, [], kind) for kind in "abc"], [0, 0, 0])
        self.assertEqual(tree_for(Kinds({}), []), {})

    def test_queries_without_sets_need_no_test(self):
        kinds = Kinds(ALL_KINDS)
        a, b, c = [Side(kinds, kind, {}) for kind in "abc"]
        queries = [Each(a, []), Pairs(c, a, [], "near", 0, ([], [])), Lonely(b, c, [], 1, []), Blocks(c, [], 1, [])]
        self.assertEqual(tree_for(kinds, queries), {"a": ("lot", (0, 1)), "b": ("lot", (2,)), "c": ("lot", (1, 2, 3))})

    def test_empty_sides_count_for_nothing(self):
        kinds = Kinds(ALL_KINDS)
        void = Side(kinds, "a", {"k": [(1, 3)], "v": [(5, 4)]})
        some = Side(kinds, "b", {"x": [(1, 3)]})
        queries = [Each(void, []), Pairs(void, some, [], "near", 1, ([], [])), Lonely(some, void, [], 1, [])]
        self.assertEqual([tests_bound(kinds, queries, kind) for kind in "abc"], [0, 2, 0])
        # a side lets events through though the query has no answers
        self.assertTrue(queries[1].is_empty())
        self.assert_right(kinds, queries)
        self.assertEqual(lot_of(tree_for(kinds, queries), ("b", 0, 0, 9, 2)), (1, 2))

    def test_bounds_by_numbers_of_cuts(self):
        kinds = Kinds(ALL_KINDS)
        for where, bound in (
            ({}, 0), ({"k": [(None, 4)]}, 1), ({"k": [(4, None)]}, 1), ({"k": [(4, 4)]}, 2), ({"k": [(4, 9)]}, 2),
            ({"k": [(None, 1), (3, None)]}, 2), ({"k": [(1, 1), (3, 3)]}, 3), ({"k": [(1, 2), (3, 4)]}, 2),
            ({"k": [(4, 4)], "v": [(1, None)]}, 3), ({"k": [(4, 4)], "v": [(1, 1)], "w": [(0, 0), (2, 5), (9, 9)]}, 7),
        ):
            self.assertEqual(tests_bound(kinds, [Each(Side(kinds, "a", where), [])], "a"), bound)
        # a cut that several sets have is one
        rows = [[(0, 4)], [(5, 9)], [(0, 9)], [(None, 9)], [(5, None)]]
        queries = [Each(Side(kinds, "a", {"v": row}), []) for row in rows]
        self.assertEqual(tests_bound(kinds, queries, "a"), 2)
        self.assertEqual(tests_bound(kinds, queries, "b"), 0)
        self.assert_right(kinds, queries)

    def test_great_numbers(self):
        kinds, great = Kinds({"a": ("k",)}), 10 ** 50
        sides = [Side(kinds, "a", {"k": row}) for row in ([(great, great + 1)], [(None, -great)])]
        queries = [Each(side, []) for side in sides]
        tree = tree_for(kinds, queries)
        for number, lot in (
            (great - 1, ()), (great, (0,)), (great + 1, (0,)), (great + 2, ()), (-great, (1,)), (1 - great, ()),
        ):
            self.assertEqual(lot_of(tree, ("a", 0, 0, number)), lot)

    def test_fourteen_queries_of_single_events_over_three_fields(self):
        draw = random.Random(14)
        kinds = Kinds({"a": ("k", "v", "w")})
        for many in (1, 1, 2, 3):
            queries = []
            for _ in range(14):
                ends = [sorted(draw.sample(range(-150, 150), 2 * many)) for _ in range(3)]
                where = {field: list(zip(row[::2], row[1::2])) for field, row in zip("kvw", ends)}
                queries.append(Each(Side(kinds, "a", where), []))
            tree = tree_for(kinds, queries)
            cuts = plain_cuts(kinds, queries, "a")
            bound = sum(len(row).bit_length() for row in cuts)
            self.assertEqual(tests_bound(kinds, queries, "a"), bound)
            self.assertLessEqual(most_tests(tree["a"]), bound)
            for _ in range(3000):
                event = ("a", 0, 0, *[draw.choice(row) - draw.choice((0, 1)) for row in cuts])
                self.assertEqual(lot_of(tree, event), plain_lot(queries, event))


class WalkTest(unittest.TestCase):
    def draw_node(self, draw, depth):
        if depth == 0 or draw.random() < 0.2:
            return ("lot", tuple(sorted(draw.sample(range(5), draw.randint(0, 5)))))
        return ("below", draw.randint(3, 5), draw.randint(-3, 3), self.draw_node(draw, depth - 1),
                self.draw_node(draw, depth - 1))

    def test_trees_of_others(self):
        draw = random.Random(371)
        for _ in range(200):
            tree = {"a": self.draw_node(draw, draw.randint(0, 6)), "c": self.draw_node(draw, 0)}
            self.assertEqual(most_tests(tree["a"]), plain_most(tree["a"]))
            for _ in range(30):
                event = ("a", draw.randint(0, 9), 0, *[draw.randint(-4, 4) for _ in range(3)])
                self.assertEqual(walked(tree, event), plain_walk(tree["a"], event))
                self.assertEqual(lot_of(tree, event), plain_walk(tree["a"], event)[0])
            self.assertEqual(walked(tree, ("c", 4, 2)), (tree["c"][1], 0))

    def test_a_bound_goes_to_the_second_node(self):
        tree = {"a": ("below", 4, 7, ("lot", (0,)), ("lot", (1,)))}
        for number, lot in ((6, (0,)), (7, (1,)), (8, (1,)), (-7, (0,))):
            self.assertEqual(walked(tree, ("a", 0, 0, 9, number)), (lot, 1))

    def test_deep_trees(self):
        node, many = ("lot", ()), 5000
        for bound in range(many):
            node = ("below", 3, -bound, ("lot", (bound % 3,)), node)
        self.assertEqual(most_tests(node), many)
        self.assertEqual(walked({"a": node}, ("a", 0, 0, 0)), ((), many))
        self.assertEqual(walked({"a": node}, ("a", 0, 0, -many)), (((many - 1) % 3,), 1))


if __name__ == "__main__":
    unittest.main()
