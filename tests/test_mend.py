"""mend: the first of the ways of the lowest price that satisfy all wishes, or -6."""

import unittest

from tests.writing import A, ALL, B, C, D, NONE
from tests.writing import both, check, either, keep, less, line, mend, never, only, replies, some, stairs, without


class Mend(unittest.TestCase):
    def mends(self, calls, *reply):
        self.assertEqual(replies(*calls, mend())[-1], list(reply))


class FirstOfEqualPrice(Mend):
    def test_two_axioms(self):
        self.mends([line(3, A, B), line(3, B, C), never(A, C)], 3, 0, 1)

    def test_three_axioms(self):
        chain = [line(2, A, B), line(2, B, C), line(2, C, D)]
        self.mends([*chain, never(A, D)], 2, 0, 0, 1)
        self.mends([*chain, never(A, C)], 2, 0, 1, 0)
        self.mends([*chain, never(A, C), never(B, D)], 2, 0, 1, 0)
        self.mends([*chain, never(A, D), keep(C, D)], 2, 0, 1, 0)

    def test_a_later_way_is_one_cheaper(self):
        self.mends([line(2, A, B), line(3, B, C), never(A, C)], 2, 1, 0)
        self.mends([line(3, A, B), line(2, B, C), line(3, C, D), never(A, D)], 2, 0, 1, 0)

    def test_levels_decide_ahead_of_how_many_axioms_are_changed(self):
        self.mends([*stairs((5, 5, 5), (5, 5, 5)), never(A, D)], 15, 0, 3)
        self.mends([*stairs((5, 5, 5), (5, 5, 6)), never(A, D)], 15, 1, 2)
        self.mends([*stairs((5, 5, 5), (5, 6, 5)), never(A, D)], 15, 2, 1)
        self.mends([*stairs((5, 5, 5), (6, 5, 5)), never(A, D)], 15, 3, 0)

    def test_equal_by_other_steps(self):
        self.mends([line(1, A, B), less(0, 600, A, B), line(601, B, C), never(A, C)], 601, 0, 1)
        self.mends([line(601, A, B), line(1, B, C), less(1, 600, B, C), never(A, C)], 601, 0, 2)


class Prices(Mend):
    def test_dear_step_ahead_of_a_cheap_one(self):
        axiom = [line(1, A, both(B, C)), less(0, 1000, A, B)]
        self.mends([*axiom, never(A, C)], 1000, 1)
        self.mends([*axiom, never(A, B)], 1001, 2)

    def test_dear_step_against_another_axiom(self):
        axiom = [line(1, A, B), less(0, 600, A, B)]
        self.mends([*axiom, line(600, B, C), never(A, C)], 600, 0, 1)
        self.mends([*axiom, line(602, B, C), never(A, C)], 601, 2, 0)

    def test_cheap_step_ahead_of_a_dear_one(self):
        axiom = [line(1000, A, both(B, C)), less(0, 1, A, B)]
        self.mends([*axiom, line(2, B, D), line(2, C, D), never(A, C)], 1, 1, 0, 0)
        self.mends([*axiom, line(2, B, D), never(A, D)], 2, 0, 1)
        self.mends([*axiom, line(2, B, D), never(A, B)], 1001, 2, 0)

    def test_many_cheap_steps_against_a_dear_one(self):
        axiom = [line(3, A, B), less(0, 1, A, B), less(0, 2, A, B)]
        self.mends([*axiom, line(7, B, C), never(A, C)], 6, 3, 0)
        self.mends([*axiom, line(5, B, C), never(A, C)], 5, 0, 1)

    def test_cheapest_of_the_stairs(self):
        self.mends([*stairs((1, 10, 100), (1000, 500, 7)), never(A, D)], 111, 3, 0)
        self.mends([*stairs((1, 10, 1000), (900, 500, 7)), never(A, D)], 911, 2, 1)
        self.mends([*stairs((1, 1000, 1000), (900, 50, 52)), never(A, D)], 951, 1, 2)
        self.mends([*stairs((53, 1000, 1000), (900, 50, 52)), never(A, D)], 1002, 0, 3)

    def test_highest_prices(self):
        axioms = []
        for index in range(3):
            axioms += [line(1000, A, B), less(index, 1000, A, B), less(index, 1000, A, B)]
        self.mends([*axioms, never(A, B)], 9000, 3, 3, 3)

    def test_lowest_prices(self):
        self.mends([line(1, A, B), line(1, A, B), never(A, B)], 2, 1, 1)


class Levels(Mend):
    def test_a_form_that_says_the_same_is_skipped(self):
        same = [line(8, A, both(B, C)), less(0, 3, without(both(B, C)), without(A)), less(0, 1, A, B)]
        self.mends([*same, never(A, C)], 4, 2)

    def test_a_form_that_is_not_weak_enough_is_skipped(self):
        self.mends([line(8, A, both(B, C)), less(0, 3, A, C), less(0, 1, A, either(B, C)), never(A, C)], 4, 2)
        self.mends([line(8, A, B), less(0, 3, A, either(B, C)), less(0, 1, both(A, D), either(B, C)),
                    never(A, either(B, C)), keep(both(A, D), either(B, C))], 4, 2)

    def test_no_form_is_skipped_without_need(self):
        self.mends([line(8, A, both(B, C)), less(0, 3, A, C), less(0, 1, A, either(B, C)), never(A, B)], 3, 1)

    def test_removal_is_the_only_way(self):
        self.mends([line(7, A, B), never(A, B)], 7, 1)
        self.mends([line(7, A, B), less(0, 2, A, B), less(0, 3, A, B), never(A, B)], 12, 3)
        self.mends([line(1, ALL, NONE), less(0, 2, ALL, both(A, without(A))), never(A, B)], 3, 2)
        self.mends([line(9, A, B), line(4, B, C), line(6, ALL, some(0, NONE)), never(C, A)], 6, 0, 0, 1)

    def test_two_axioms_bring_the_same(self):
        self.mends([line(7, A, B), line(2, without(B), without(A)), never(A, B)], 9, 1, 1)
        self.mends([line(7, A, both(B, C)), less(0, 3, A, C), line(2, A, B), never(A, B)], 5, 1, 1)

    def test_wanted_ones_bound_the_levels(self):
        steps = [*stairs((1, 1, 1), (1, 1, 1)), never(A, D)]
        self.mends([*steps, keep(A, B)], 3, 0, 3)
        self.mends([*steps, keep(both(B, C), D)], 3, 1, 2)
        self.mends([*steps, keep(B, D)], 3, 2, 1)
        self.mends([*steps, keep(either(B, C), D)], 3, 3, 0)
        self.mends([*steps, keep(A, either(B, C)), keep(B, D)], 3, 2, 1)
        self.mends([*steps, keep(A, B), keep(B, D)], -6)

    def test_below_roles(self):
        axioms = [line(5, A, some(0, B)), line(3, some(0, B), C)]
        self.mends([*axioms, never(A, C)], 3, 0, 1)
        self.mends([*axioms, less(1, 1, some(0, both(A, B)), C), never(A, C)], 1, 0, 1)
        self.mends([*axioms, less(1, 1, both(A, some(0, B)), C), never(A, C)], 4, 0, 2)
        self.mends([line(5, A, only(0, B)), line(3, A, some(0, ALL)), never(A, some(0, B))], 3, 0, 1)


class NoWay(Mend):
    HELD_BY_ALL = [(A, A), (NONE, A), (A, ALL), (both(A, B), A), (A, either(A, B)), (both(A, without(A)), NONE),
                   (some(0, A), some(0, ALL)), (only(1, NONE), only(1, A)), (some(0, NONE), NONE)]
    HELD_BY_NONE = [(A, B), (ALL, A), (A, NONE), (ALL, NONE), (A, some(0, A)), (A, only(0, A))]
    AXIOMS = [[], [line(1, C, C)], [line(1, NONE, C), line(2, C, ALL)],
              [line(1, C, C), less(0, 1, C, C), line(1, C, C), line(1, C, C)]]

    def test_unwanted_one_that_holds_without_axioms(self):
        for axioms in self.AXIOMS:
            for pair in self.HELD_BY_ALL:
                self.mends([*axioms, never(*pair)], -6)

    def test_wanted_one_that_no_way_brings(self):
        for axioms in self.AXIOMS:
            for pair in self.HELD_BY_NONE:
                self.mends([*axioms, keep(*pair)], -6)

    def test_the_other_way_round_there_is_one(self):
        for axioms in self.AXIOMS:
            count = len([call for call in axioms if call[0] == 1])
            for pair in self.HELD_BY_ALL:
                self.mends([*axioms, keep(*pair)], 0, *[0] * count)
            for pair in self.HELD_BY_NONE:
                self.mends([*axioms, never(*pair)], 0, *[0] * count)

    def test_wishes_against_each_other(self):
        self.mends([line(1, A, B), never(A, B), keep(A, B)], -6)
        self.mends([line(1, A, B), line(1, B, C), never(A, C), keep(A, B), keep(B, C)], -6)
        self.mends([line(1, A, both(B, C)), never(A, C), keep(A, B)], -6)
        self.mends([line(1, A, B), never(A, either(B, C)), keep(A, B)], -6)

    def test_each_wish_alone_has_a_way(self):
        axioms = [line(1, A, B), line(1, B, C)]
        for wish in (never(A, C), keep(A, B), keep(B, C)):
            self.assertNotEqual(replies(*axioms, wish, mend())[-1], [-6])

    def test_second_wish_of_a_sort(self):
        self.mends([line(1, A, B), never(A, C), never(A, A)], -6)
        self.mends([line(1, A, B), keep(A, B), keep(A, C)], -6)


class AfterOtherCalls(Mend):
    def test_it_changes_nothing(self):
        calls = [line(3, A, B), line(2, B, C), never(A, C)]
        told = replies(*calls, mend(), mend(), check(0, 0), mend(), check(1, 1), mend())
        self.assertEqual(told[3:], [[2, 0, 1]] * 2 + [[0, 0, 1], [2, 0, 1], [1, 5, 0], [2, 0, 1]])

    def test_it_speaks_of_what_is_there_by_then(self):
        calls = [mend(), line(9, A, both(B, C)), mend(), never(A, C), mend(), less(0, 2, A, B), mend()]
        self.assertEqual(replies(*calls), [[0], [0], [0, 0], [0], [9, 1], [1], [2, 1]])


if __name__ == "__main__":
    unittest.main()
