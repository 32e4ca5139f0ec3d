"""least: how many minimal ways there are, then each with its price and levels, in the order of the ways."""

import unittest

from tests.writing import A, ALL, B, C, D, NONE
from tests.writing import both, check, either, keep, least, less, line, mend, never, replies, some, stairs, without


class Least(unittest.TestCase):
    def gives(self, calls, *ways):
        told = [len(ways)] + [number for way in ways for number in way]
        self.assertEqual(replies(*calls, least())[-1], told)

    def satisfies(self, calls, *levels):
        self.assertEqual(replies(*calls, check(*levels))[-1][0], 1)


class HowMany(Least):
    def test_none(self):
        self.gives([line(1, A, B), keep(B, A)])
        self.gives([line(1, A, B), never(B, B)])
        self.gives([line(1, A, B), line(1, B, C), never(A, C), keep(A, B), keep(B, C)])
        self.gives([*stairs((1, 1, 1), (1, 1, 1)), never(A, D), keep(A, B), keep(B, D)])

    def test_one(self):
        self.gives([line(7, A, B), never(A, B)], (7, 1))
        self.gives([line(7, A, B), line(5, B, C), never(A, B)], (7, 1, 0))
        self.gives([line(7, A, B), line(5, A, B), never(A, B)], (12, 1, 1))
        self.gives([line(7, A, B), line(5, B, C), line(1, C, D), never(A, D), keep(A, C)], (1, 0, 0, 1))

    def test_one_that_changes_nothing(self):
        self.gives([line(7, A, B), line(5, B, C)], (0, 0, 0))
        self.gives([line(7, A, B), line(5, B, C), never(B, A), keep(A, C)], (0, 0, 0))
        self.gives([*stairs((1, 1, 1), (1, 1, 1)), never(D, A)], (0, 0, 0))

    def test_two(self):
        self.gives([line(7, A, B), line(5, B, C), never(A, C)], (5, 0, 1), (7, 1, 0))
        self.gives([line(7, A, B), line(5, B, C), line(3, C, D), never(A, D), keep(A, B)], (3, 0, 0, 1), (5, 0, 1, 0))

    def test_three(self):
        chain = [line(7, A, B), line(5, B, C), line(3, C, D), never(A, D)]
        self.gives(chain, (3, 0, 0, 1), (5, 0, 1, 0), (7, 1, 0, 0))

    def test_four(self):
        self.gives([*stairs((1, 10, 100), (1000, 500, 7)), never(A, D)],
                   (1507, 0, 3), (1501, 1, 2), (1011, 2, 1), (111, 3, 0))

    def test_four_with_three_axioms(self):
        """Two chains from A to D that begin with the same axiom."""
        first = [line(9, A, both(B, C)), less(0, 2, A, B), less(0, 3, A, either(B, C))]
        self.gives([*first, line(5, B, D), line(6, C, D), never(A, D)],
                   (11, 0, 1, 1), (7, 1, 1, 0), (11, 2, 0, 1), (14, 3, 0, 0))


class Order(Least):
    def test_not_by_price(self):
        for prices in ((1, 2, 3), (3, 2, 1), (2, 3, 1), (5, 5, 5)):
            chain = [line(prices[0], A, B), line(prices[1], B, C), line(prices[2], C, D), never(A, D)]
            self.gives(chain, (prices[2], 0, 0, 1), (prices[1], 0, 1, 0), (prices[0], 1, 0, 0))

    def test_by_the_first_axiom_at_which_they_differ(self):
        """Two chains have one axiom in common, each time another one."""
        axioms = [line(1, A, B), line(10, B, C), line(100, B, D)]
        self.gives([*axioms, never(A, C), never(A, D)], (110, 0, 1, 1), (1, 1, 0, 0))
        axioms = [line(1, B, C), line(10, B, D), line(100, A, B)]
        self.gives([*axioms, never(A, C), never(A, D)], (100, 0, 0, 1), (11, 1, 1, 0))
        axioms = [line(1, B, C), line(10, A, B), line(100, B, D)]
        self.gives([*axioms, never(A, C), never(A, D)], (10, 0, 1, 0), (101, 1, 0, 1))


class Minimal(Least):
    def test_not_the_cheapest(self):
        calls = [line(1, A, B), line(1000, B, C), never(A, C)]
        self.assertEqual(replies(*calls, mend())[-1], [1, 1, 0])
        self.gives(calls, (1000, 0, 1), (1, 1, 0))

    def test_cheaper_than_one_is_no_matter(self):
        """The way 0 2 costs more than 1 0, which has the higher level of the first axiom."""
        calls = [line(2, A, B), line(500, B, C), less(1, 500, both(B, ALL), C), never(A, C)]
        self.gives(calls, (1000, 0, 2), (2, 1, 0))

    def test_higher_ways_are_left_out(self):
        calls = [line(7, A, B), line(5, B, C), never(A, C)]
        self.satisfies(calls, 1, 1)
        self.gives(calls, (5, 0, 1), (7, 1, 0))

    def test_a_higher_level_of_the_same_axiom_is_left_out(self):
        calls = [line(7, A, both(B, C)), less(0, 2, A, B), less(0, 3, A, either(B, C)), never(A, C)]
        self.satisfies(calls, 1)
        self.satisfies(calls, 2)
        self.satisfies(calls, 3)
        self.gives(calls, (2, 1))

    def test_between_two_ways_of_the_stairs(self):
        calls = [*stairs((1, 2, 4), (8, 16, 32)), never(A, D)]
        for levels in ((1, 3), (2, 2), (3, 1), (3, 3)):
            self.satisfies(calls, *levels)
        self.gives(calls, (56, 0, 3), (25, 1, 2), (11, 2, 1), (7, 3, 0))

    def test_nowhere_higher_with_some_levels_equal(self):
        """The ways 0 1 1 and 1 1 0 are both above 0 1 0."""
        calls = [line(7, A, B), line(5, B, C), line(3, D, D), never(B, C)]
        self.satisfies(calls, 0, 1, 1)
        self.satisfies(calls, 1, 1, 0)
        self.gives(calls, (5, 0, 1, 0))

    def test_wanted_ones_leave_fewer(self):
        steps = [*stairs((1, 2, 4), (8, 16, 32)), never(A, D)]
        self.gives([*steps, keep(A, B)], (56, 0, 3), (25, 1, 2))
        self.gives([*steps, keep(B, D)], (11, 2, 1), (7, 3, 0))
        self.gives([*steps, keep(A, either(B, C)), keep(both(B, C), D)], (25, 1, 2), (11, 2, 1))
        self.gives([*steps, keep(A, both(B, C))], (56, 0, 3))
        self.gives([*steps, keep(either(B, C), D)], (7, 3, 0))

    def test_second_unwanted_one_leads_higher(self):
        steps = [*stairs((1, 2, 4), (8, 16, 32)), never(A, D)]
        self.gives([*steps, never(A, B)], (11, 2, 1), (7, 3, 0))
        self.gives([*steps, never(both(B, C), D)], (56, 0, 3))

    def test_forms_that_say_the_same(self):
        same = [line(7, A, B), less(0, 2, without(B), without(A)), less(0, 3, A, B)]
        self.gives([*same, line(5, B, C), never(A, C)], (5, 0, 1), (12, 3, 0))

    def test_below_roles(self):
        calls = [line(5, A, some(0, B)), line(3, B, NONE), never(A, NONE)]
        self.gives(calls, (3, 0, 1), (5, 1, 0))


if __name__ == "__main__":
    unittest.main()
