"""[38] Trees of tests that are right or wrong for some event, and many queries run by one."""

import random
import unittest

from streamsure.errors import BadLetter
from streamsure.machines import run
from streamsure.queries import Each, Kinds, Lonely, Side
from streamsure.routing import lot_of, run_many, tree_for, wrong_tree
from tests import plain
from tests.draws import KINDS, SHAPES, draw_letters, draw_query
from tests.test_routing import draw_case, draw_queries, grid, plain_cuts, plain_lot, plain_walk

ANY = ("lot", (0,))


def chained(draw, cuts, queries, kind):
    """A right node: the cuts of each field one after another, in any order; a test may stand twice."""
    tests = [(3 + field, cut) for field, row in enumerate(cuts) for cut in row]
    tests += draw.sample(tests, min(len(tests), 1))
    draw.shuffle(tests)

    def node(tests, lows, highs):
        if not tests:
            numbers = [low if low is not None else 0 if high is None else high - 1 for low, high in zip(lows, highs)]
            return ("lot", plain_lot(queries, (kind, 0, 0, *numbers)))
        (place, bound), *rest = tests
        field = place - 3
        low, high = lows[field], highs[field]
        if (low is not None and bound <= low) or (high is not None and bound >= high):
            # one way is taken by no event: what stands there does not matter
            void = draw.choice((ANY, ("lot", ()), ("below", place, bound, ANY, ANY)))
            some = node(rest, lows, highs)
            return ("below", place, bound, *((void, some) if low is not None and bound <= low else (some, void)))
        below = node(rest, lows, [bound if at == field else one for at, one in enumerate(highs)])
        above = node(rest, [bound if at == field else one for at, one in enumerate(lows)], highs)
        return ("below", place, bound, below, above)

    many = len(cuts)
    # a chain of unlike ways grows fast
    return node(tests[:9], [None] * many, [None] * many) if len(tests) <= 9 else None


def spots(node, path=()):
    """The ways to all nodes below a node, each a tuple of places in tuples."""
    yield path
    if node[0] == "below":
        for at in (3, 4):
            yield from spots(node[at], (*path, at))


def part_at(node, path):
    for at in path:
        node = node[at]
    return node


def replaced(node, path, new):
    if not path:
        return new
    return (*node[:path[0]], replaced(node[path[0]], path[1:], new), *node[path[0] + 1:])


def spoilt(draw, tree, many):
    """A tree that is a little unlike another one."""
    kind = draw.choice(sorted(tree))
    path = draw.choice(list(spots(tree[kind])))
    node = part_at(tree[kind], path)
    if node[0] == "lot":
        numbers = set(node[1]) ^ {draw.randrange(many)} if many else set()
        new = ("lot", tuple(sorted(numbers)))
    elif draw.random() < 0.5:
        new = (*node[:2], node[2] + draw.choice((-3, -1, 1, 2)), *node[3:])
    else:
        new = (*node[:3], node[4], node[3])
    return {**tree, kind: replaced(tree[kind], path, new)}


def bounds_in(node):
    return [] if node[0] == "lot" else [(node[1], node[2]), *bounds_in(node[3]), *bounds_in(node[4])]


def is_wrong(kinds, queries, tree):
    """Whether some event of a grid around all cuts and bounds comes out at a wrong lot."""
    for kind in kinds.fields:
        many = len(kinds.fields[kind])
        where = {field: [(None, None)] for field in kinds.fields[kind]}
        marks = [[(bound, bound) for place, bound in bounds_in(tree[kind]) if place == 3 + field]
                 for field in range(many)]
        extra = [Each(Side(kinds, kind, {**where, field: row}), [])
                 for field, row in zip(kinds.fields[kind], marks) if row]
        for event in grid(kinds, [*queries, *extra]):
            if event[0] == kind and plain_walk(tree[kind], event)[0] != plain_lot(queries, event):
                return True
    return False


class WrongTest(unittest.TestCase):
    def assert_told(self, kinds, queries, tree):
        """The tree is wrong just for some event, and for the one that is told."""
        found = wrong_tree(kinds, queries, tree)
        self.assertEqual(found is not None, is_wrong(kinds, queries, tree), (tree, [q.form() for q in queries]))
        if found is not None:
            self.assertTrue(kinds.is_event(found), found)
            self.assertNotEqual(plain_walk(tree[found[0]], found)[0], plain_lot(queries, found), (tree, found))
        return found is not None

    def test_trees_that_are_made(self):
        draw = random.Random(38)
        for _ in range(150):
            kinds, queries = draw_case(draw)
            self.assertIsNone(wrong_tree(kinds, queries, tree_for(kinds, queries)))

    def test_right_trees_of_every_form(self):
        draw = random.Random(381)
        chains = 0
        for _ in range(250):
            kinds, queries = draw_case(draw)
            nodes = {kind: chained(draw, plain_cuts(kinds, queries, kind), queries, kind) for kind in kinds.fields}
            tree = tree_for(kinds, queries)
            chains += sum(node is not None and node[0] == "below" for node in nodes.values())
            tree.update({kind: node for kind, node in nodes.items() if node is not None})
            self.assertIsNone(wrong_tree(kinds, queries, tree), (tree, [query.form() for query in queries]))
        self.assertGreater(chains, 100)

    def test_the_same_test_twice_and_ways_that_no_event_takes(self):
        kinds = Kinds({"a": ("k", "v")})
        queries = [Each(Side(kinds, "a", {"k": [(1, None)]}), []), Each(Side(kinds, "a", {"v": [(None, 3)]}), [])]
        rights = []
        for lows in ((), (0,)):
            rights.append(("below", 4, 4, ("lot", (*lows, 1)), ("lot", lows)))
        right = ("below", 3, 1, *rights)
        wrong = ("lot", ())
        twice = ("below", 3, 1, ("below", 3, 1, rights[0], ("lot", (0, 1))), ("below", 3, 0, wrong, rights[1]))
        deeper = ("below", 4, 9, right, ("below", 4, 4, ANY, ("below", 3, 1, ("lot", ()), ANY)))
        for node in (right, twice, deeper):
            self.assertIsNone(wrong_tree(kinds, queries, {"a": node}))
        for node in (wrong, ("lot", (0, 1)), rights[0], ("below", 3, 1, rights[1], rights[0]),
                     ("below", 3, 2, *rights), ("below", 3, 0, *rights), ("below", 4, 1, *rights)):
            self.assertTrue(self.assert_told(kinds, queries, {"a": node}))

    def test_spoilt_trees(self):
        draw = random.Random(382)
        counts = [0, 0]
        for _ in range(300):
            kinds, queries = draw_case(draw)
            tree = tree_for(kinds, queries)
            if len(list(grid(kinds, queries))) > 3000:
                continue
            for _ in range(draw.choice((1, 1, 2))):
                tree = spoilt(draw, tree, len(queries))
            counts[self.assert_told(kinds, queries, tree)] += 1
        self.assertGreater(min(counts), 20)

    def test_a_kinds_node_exchanged_for_anothers(self):
        draw = random.Random(383)
        kinds = Kinds({"a": ("k", "v"), "b": ("k", "v"), "d": ("x", "y")})
        counts = [0, 0]
        for _ in range(80):
            queries = draw_queries(draw, kinds, draw.choice((1, 2, 3)))
            tree = tree_for(kinds, queries)
            one, other = draw.sample("abd", 2)
            tree[one], tree[other] = tree[other], tree[one]
            counts[self.assert_told(kinds, queries, tree)] += 1
        self.assertGreater(min(counts), 3)

    def test_a_test_of_a_field_that_the_kind_lacks(self):
        kinds = Kinds({"a": ("k",), "c": ()})
        node = ("below", 3, 1, ("below", 4, 1, ("lot", ()), ("lot", ())), ("lot", ()))
        found = wrong_tree(kinds, [], {"a": node, "c": ("lot", ())})
        self.assertTrue(kinds.is_event(found))
        self.assertLess(found[3], 1)
        # no event takes this way
        node = ("below", 3, 1, ("lot", ()), ("below", 3, 1, ("below", 4, 1, ("lot", ()), ("lot", ())), ("lot", ())))
        self.assertIsNone(wrong_tree(kinds, [], {"a": node, "c": ("lot", ())}))
        found = wrong_tree(kinds, [], {"a": ("lot", ()), "c": ("below", 3, 1, ("lot", ()), ("lot", ()))})
        self.assertTrue(kinds.is_event(found) and found[0] == "c")

    def test_kinds_without_fields(self):
        kinds = Kinds({"c": (), "d": ()})
        c, d = Side(kinds, "c", {}), Side(kinds, "d", {})
        queries = [Each(c, []), Lonely(d, c, [], 1, [])]
        self.assertIsNone(wrong_tree(kinds, queries, {"c": ("lot", (0, 1)), "d": ("lot", (1,))}))
        for tree in ({"c": ("lot", (0, 1)), "d": ("lot", (0, 1))}, {"c": ("lot", (0,)), "d": ("lot", (1,))},
                     {"c": ("lot", (1,)), "d": ("lot", (1,))}, {"c": ("lot", (0, 1)), "d": ("lot", ())}):
            self.assertTrue(self.assert_told(kinds, queries, tree))

    def test_one_number_of_very_many(self):
        """Only one event in a great many is brought to a wrong lot."""
        kinds, great = Kinds({"a": ("k", "v", "w")}), 10 ** 30
        inner = [(None, great - 1), (great + 1, None)]
        queries = [Each(Side(kinds, "a", {"k": inner, "v": [(great, great)]}), []), Each(Side(kinds, "a", {}), [])]
        self.assertIsNone(wrong_tree(kinds, queries, tree_for(kinds, queries)))
        all_of_them = ("below", 4, great, ("lot", (1,)), ("below", 4, great + 1, ("lot", (0, 1)), ("lot", (1,))))
        found = wrong_tree(kinds, queries, {"a": all_of_them})
        self.assertEqual(found[3:5], (great, great))

    def test_deep_trees(self):
        kinds = Kinds({"a": ("k",)})
        queries = [Each(Side(kinds, "a", {"k": [(-3000, -3000)]}), [])]
        node = ("below", 3, -3000, ("lot", ()), ANY)
        for bound in range(-2999, 2001):
            node = ("below", 3, bound, node, ("lot", ()))
        self.assertIsNone(wrong_tree(kinds, queries, {"a": node}))
        self.assertEqual(wrong_tree(kinds, [*queries, *queries], {"a": node})[3], -3000)


class ManyTest(unittest.TestCase):
    def test_each_is_what_it_is_alone(self):
        draw = random.Random(384)
        for number in range(250):
            queries = [draw_query(draw, SHAPES[more % len(SHAPES)]) for more in range(number % 8)]
            letters = draw_letters(draw, draw.randint(0, 14), 6, 0.03)
            states, told = run_many(queries, tree_for(KINDS, queries), letters)
            alone = [run(query, letters) for query in queries]
            self.assertEqual(states, tuple(state for state, rows in alone))
            self.assertEqual(told, tuple(tuple(rows[place] for state, rows in alone) for place in range(len(letters))))

    def test_by_any_right_tree(self):
        draw = random.Random(385)
        queries = [Each(Side(KINDS, "a", {"k": [(0, 1)]}), ["k"]), Each(Side(KINDS, "b", {}), ["x"])]
        tree = {"a": ("below", 3, 0, ("lot", ()), ("below", 3, 2, ("lot", (0,)), ("lot", ()))), "b": ("lot", (1,)),
                "c": ("lot", ())}
        self.assertIsNone(wrong_tree(KINDS, queries, tree))
        for _ in range(30):
            letters = draw_letters(draw, 10, 6, 0.03)
            self.assertEqual(run_many(queries, tree, letters), run_many(queries, tree_for(KINDS, queries), letters))

    def test_events_go_by_the_tree_alone(self):
        queries = [Each(Side(KINDS, "c", {}), ["time"]), Each(Side(KINDS, "c", {}), ["id"])]
        tree = {"a": ("lot", ()), "b": ("lot", ()), "c": ("lot", (1,))}
        states, told = run_many(queries, tree, [("event", ("c", 4, 7)), ("mark", 2), ("end",)])
        self.assertEqual((states, told), (((), ()), (((), ((7,),)), ((), ()), ((), ()))))

    def test_no_letters_and_no_queries(self):
        queries = [Each(Side(KINDS, "c", {}), ["time"])]
        self.assertEqual(run_many(queries, tree_for(KINDS, queries), []), (((0, ()),), ()))
        tree = tree_for(KINDS, [])
        self.assertEqual(run_many([], tree, [("event", ("c", 4, 7)), ("mark", 2), ("end",)]), ((), ((), (), ())))

    def test_bad_letters(self):
        good = [("event", ("c", 4, 7)), ("mark", 2), ("end",)]
        for queries in ([], [Each(Side(KINDS, "c", {}), [])], [Each(Side(KINDS, "a", {"k": []}), [])]):
            tree = tree_for(KINDS, queries)
            for bad in (None, "end", ("end", 1), ("mark", -1), ("mark", True), ("event", ("d", 4, 7)), ("event", 7),
                        ("event", ("c", -1, 7)), ["end"]):
                for place in range(4):
                    with self.assertRaises(BadLetter) as caught:
                        run_many(queries, tree, [*good[:place], bad, *good[place:], bad])
                    self.assertEqual(caught.exception.number, place)
        with self.assertRaises(BadLetter) as caught:
            run_many(queries, tree, [*good, ("event", ("c", 1, 2, 3))])
        self.assertEqual(caught.exception.number, 3)

    def test_lots_are_those_of_the_plain_words(self):
        draw = random.Random(386)
        for _ in range(60):
            queries = [draw_query(draw) for _ in range(draw.randint(0, 6))]
            tree = tree_for(KINDS, queries)
            for letter in draw_letters(draw, 12, 6):
                if letter[0] == "event":
                    sides = [[getattr(query, name) for name in ("side", "first", "second") if hasattr(query, name)]
                             for query in queries]
                    lot = [number for number, row in enumerate(sides)
                           if any(plain.is_let(side, letter[1]) for side in row)]
                    self.assertEqual(lot_of(tree, letter[1]), tuple(lot))


if __name__ == "__main__":
    unittest.main()
