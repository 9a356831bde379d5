"""[2] Sets of integers, against plain lists of members of small ranges."""

import itertools
import unittest

from streamsure.sets import EVERYTHING, NOTHING, greatest, has, how_many, least, meet
from streamsure.sets import member_but, normal, others, some_member, union

# ends of intervals are None or lie in ENDS; behind the borders of the RANGE a
# set holds all or nothing, so that the range tells all of it
ENDS = (None, -2, -1, 0, 1, 2)
RANGE = range(-5, 6)
BIG = 10**60


def in_interval(pair, number):
    low, high = pair
    return (low is None or low <= number) and (high is None or number <= high)


def members(pairs):
    return [number for number in RANGE if any(in_interval(pair, number) for pair in pairs)]


def all_intervals():
    return list(itertools.product(ENDS, ENDS))


def all_sets():
    """Each set whose borders lie in ENDS, in its one form, built from its members."""
    found = {}
    for endless_low, endless_high in itertools.product((False, True), repeat=2):
        for bits in itertools.product((False, True), repeat=5):
            inner = [n for n, bit in zip(range(-2, 3), bits) if bit]
            held = [n for n in RANGE if n < -2 and endless_low] + inner
            held += [n for n in RANGE if n > 2 and endless_high]
            found[tuple(held)] = form_of_members(held)
    return found


def form_of_members(held):
    """The one form, made number by number, by nothing of the program."""
    runs = []
    for number in held:
        if runs and runs[-1][1] == number - 1:
            runs[-1][1] = number
        else:
            runs.append([number, number])
    return tuple(
        (None if low == RANGE[0] else low, None if high == RANGE[-1] else high)
        for low, high in runs
    )


SETS = all_sets()


class FormTest(unittest.TestCase):
    def assert_form(self, one):
        self.assertIs(type(one), tuple)
        for pair in one:
            self.assertIs(type(pair), tuple)
            self.assertEqual(len(pair), 2)
            for end in pair:
                self.assertTrue(end is None or type(end) is int)
            self.assertFalse(None not in pair and pair[0] > pair[1])
        for ahead, behind in zip(one, one[1:]):
            self.assertIsNotNone(ahead[1])
            self.assertIsNotNone(behind[0])
            self.assertGreaterEqual(behind[0], ahead[1] + 2)


class NormalTest(FormTest):
    def test_constants(self):
        self.assertEqual(EVERYTHING, ((None, None),))
        self.assertEqual(NOTHING, ())

    def test_every_two_intervals(self):
        for pairs in itertools.product(all_intervals(), repeat=2):
            found = normal(pairs)
            self.assert_form(found)
            self.assertEqual(found, SETS[tuple(members(pairs))], pairs)

    def test_three_intervals_in_every_order(self):
        ends = (None, -2, 0, 1)
        pairs = list(itertools.product(ends, ends))
        for rows in itertools.combinations(pairs, 3):
            wanted = SETS[tuple(members(rows))]
            for order in itertools.permutations(rows):
                self.assertEqual(normal(order), wanted, order)

    def test_lists_and_tuples_alike(self):
        wanted = ((None, 1), (3, 6), (8, None))
        self.assertEqual(normal([[8, None], [3, 4], [5, 6], [None, 1]]), wanted)
        self.assertEqual(normal(((8, None), [3, 4], (5, 6), (None, 1))), wanted)
        self.assert_form(normal([[8, None], [3, 4]]))

    def test_what_touches_is_one_and_what_has_a_number_between_is_two(self):
        self.assertEqual(normal([(3, 4), (5, 6)]), ((3, 6),))
        self.assertEqual(normal([(5, 6), (3, 4)]), ((3, 6),))
        self.assertEqual(normal([(3, 4), (6, 7)]), ((3, 4), (6, 7)))
        self.assertEqual(normal([(None, 0), (1, None)]), EVERYTHING)
        self.assertEqual(normal([(None, 0), (2, None)]), ((None, 0), (2, None)))

    def test_one_inside_another(self):
        self.assertEqual(normal([(0, 9), (2, 3), (5, 6)]), ((0, 9),))
        self.assertEqual(normal([(0, None), (2, 3), (8, 9)]), ((0, None),))
        self.assertEqual(normal([(None, 9), (2, 3)]), ((None, 9),))

    def test_empty_intervals_do_not_join_what_lies_beside_them(self):
        self.assertEqual(normal([(5, 3)]), NOTHING)
        self.assertEqual(normal([]), NOTHING)
        self.assertEqual(normal([(0, 1), (3, 2), (4, 4)]), ((0, 1), (4, 4)))
        self.assertEqual(normal([(2, -9), (1, 1)]), ((1, 1),))

    def test_numbers_of_many_figures(self):
        self.assertEqual(normal([(BIG + 1, 2 * BIG), (-BIG, BIG)]), ((-BIG, 2 * BIG),))
        self.assertEqual(
            normal([(BIG + 2, BIG + 2), (BIG, BIG)]), ((BIG, BIG), (BIG + 2, BIG + 2))
        )

    def test_what_is_handed_in_is_left_alone(self):
        pairs = [[5, 6], [3, 4]]
        normal(pairs)
        self.assertEqual(pairs, [[5, 6], [3, 4]])


class OperationsTest(FormTest):
    def test_union_and_meet_of_every_two_sets(self):
        for (ones, one), (twos, two) in itertools.product(SETS.items(), repeat=2):
            both = union(one, two)
            self.assert_form(both)
            self.assertEqual(both, SETS[tuple(n for n in RANGE if n in ones or n in twos)])
            common = meet(one, two)
            self.assert_form(common)
            self.assertEqual(common, SETS[tuple(n for n in RANGE if n in ones and n in twos)])

    def test_others_of_every_set(self):
        for held, one in SETS.items():
            self.assert_form(others(one))
            self.assertEqual(others(one), SETS[tuple(n for n in RANGE if n not in held)])

    def test_others_of_everything_and_nothing(self):
        self.assertEqual(others(EVERYTHING), NOTHING)
        self.assertEqual(others(NOTHING), EVERYTHING)

    def test_has_of_every_set(self):
        for held, one in SETS.items():
            for number in RANGE:
                self.assertIs(has(one, number), number in held)

    def test_least_and_greatest_of_every_set(self):
        for held, one in SETS.items():
            low = min(held) if held and RANGE[0] not in held else None
            high = max(held) if held and RANGE[-1] not in held else None
            self.assertEqual((least(one), greatest(one)), (low, high), one)

    def test_zero_is_a_least_and_a_greatest_one(self):
        self.assertEqual(least(((0, None),)), 0)
        self.assertEqual(greatest(((None, 0),)), 0)

    def test_numbers_of_many_figures(self):
        one = ((None, -BIG), (BIG, BIG + 5))
        two = ((-BIG - 1, BIG + 1), (BIG + 5, None))
        self.assertEqual(meet(one, two), ((-BIG - 1, -BIG), (BIG, BIG + 1), (BIG + 5, BIG + 5)))
        self.assertEqual(union(one, two), EVERYTHING)
        self.assertEqual(others(one), ((1 - BIG, BIG - 1), (BIG + 6, None)))
        self.assertTrue(has(one, BIG + 5))
        self.assertFalse(has(one, BIG - 1))
        self.assertEqual((least(two), greatest(one)), (-BIG - 1, BIG + 5))


class MembersTest(unittest.TestCase):
    def test_how_many_of_every_set(self):
        for held, one in SETS.items():
            endless = RANGE[0] in held or RANGE[-1] in held
            self.assertEqual(how_many(one), None if endless else len(held), one)

    def test_how_many_of_nothing_and_of_many_figures(self):
        self.assertEqual(how_many(NOTHING), 0)
        self.assertIsNone(how_many(EVERYTHING))
        self.assertEqual(how_many(((-BIG, BIG), (2 * BIG, 2 * BIG))), 2 * BIG + 2)
        self.assertIsNone(how_many(((0, 3), (BIG, None))))

    def test_some_member_of_every_set_that_is_not_empty(self):
        for one in SETS.values():
            if one:
                self.assert_member(some_member(one), one)

    def assert_member(self, number, one):
        self.assertIs(type(number), int)
        self.assertTrue(any(in_interval(pair, number) for pair in one), (number, one))

    def test_member_but_of_every_set(self):
        for seen in ((), (0,), (-2, -1, 0, 1, 2), (2, 2, 0, 0, -2), (7, 1, 1, -9), (9, 8)):
            for held, one in SETS.items():
                endless = RANGE[0] in held or RANGE[-1] in held
                found = member_but(one, seen)
                if endless or any(number not in seen for number in held):
                    self.assert_member(found, one)
                    self.assertNotIn(found, seen)
                else:
                    self.assertIsNone(found, (one, seen))

    def test_member_but_of_nothing(self):
        self.assertIsNone(member_but(NOTHING, ()))
        self.assertIsNone(member_but(NOTHING, (1, 2)))

    def test_one_member_is_left(self):
        one = ((0, 40), (50, 60))
        held = [*range(41), *range(50, 61)]
        for left in held:
            seen = [number for number in reversed(held) if number != left] * 2 + [45, -1, 61]
            self.assertEqual(member_but(one, seen), left)
        self.assertIsNone(member_but(one, held + held))

    def test_many_seen_of_endless_and_of_long_sets(self):
        seen = list(range(-300, 301))
        for one in (EVERYTHING, ((None, 0),), ((0, None),), ((-BIG, BIG),), ((0, BIG),)):
            found = member_but(one, seen)
            self.assert_member(found, one)
            self.assertNotIn(found, seen)

    def test_seen_at_the_ends_of_endless_sets(self):
        for one in (((None, 5),), ((5, None),), ((None, 5), (7, None))):
            for seen in ([5], [5, 6, 4], [5, 5, 5, 99], [5, 4, 3, 6, 7, 8, 0]):
                found = member_but(one, seen)
                self.assert_member(found, one)
                self.assertNotIn(found, seen)

    def test_zero_may_be_the_member(self):
        self.assertEqual(member_but(((0, 0),), (1,)), 0)
        self.assertEqual(some_member(((0, 0),)), 0)
        self.assertEqual(some_member(((BIG, BIG),)), BIG)

    def test_any_row_of_seen_will_do(self):
        for seen in ([1, 2], (1, 2), {1, 2}, {1: True, 2: True}):
            self.assertEqual(member_but(((1, 3),), seen), 3)


if __name__ == "__main__":
    unittest.main()
