"""check: whether a way satisfies all wishes, its price, and whether each wish's subsumption holds with it."""

import itertools
import unittest

from tests.writing import A, ALL, B, C, D, NONE
from tests.writing import both, check, either, keep, less, line, never, only, replies, some, stairs, without

HIGHEST = 4294967295

ONE = [line(5, A, B)]
TWO = [line(5, A, both(B, C)), less(0, 2, A, B)]
THREE = [*TWO, less(0, 3, A, either(B, C))]


class Check(unittest.TestCase):
    def checks(self, calls, replied):
        """replied: for each way that is asked, at most ten, what is answered."""
        told = replies(*calls, *[check(*levels) for levels in replied])
        self.assertEqual(dict(zip(replied, told[len(calls):])), replied)


class Levels(Check):
    def test_one_form(self):
        self.checks([*ONE, never(A, B)], {(0,): [0, 0, 1], (1,): [1, 5, 0], (2,): [-1], (3,): [-1], (HIGHEST,): [-1]})

    def test_two_forms(self):
        self.checks([*TWO, never(A, C), keep(A, B)], {
            (0,): [0, 0, 1, 1], (1,): [1, 2, 0, 1], (2,): [0, 7, 0, 0], (3,): [-1], (4,): [-1], (HIGHEST,): [-1],
        })

    def test_three_forms(self):
        self.checks([*THREE, never(A, C), never(A, B), keep(A, either(B, C))], {
            (0,): [0, 0, 1, 1, 1], (1,): [0, 2, 0, 1, 1], (2,): [1, 5, 0, 0, 1], (3,): [0, 10, 0, 0, 0],
            (4,): [-1], (5,): [-1], (HIGHEST,): [-1],
        })

    def test_each_axiom_has_its_own_levels(self):
        calls = [line(1, A, A), line(10, B, B), less(1, 20, B, B), line(100, C, C), less(2, 200, C, C),
                 less(2, 400, C, C)]
        self.checks(calls, {(1, 2, 3): [1, 731], (2, 0, 0): [-1], (0, 3, 0): [-1], (0, 0, 4): [-1],
                            (1, 0, 0): [1, 1], (0, 1, 0): [1, 20], (0, 0, 1): [1, 200], (0, 0, 2): [1, 600]})
        self.checks(calls, {(HIGHEST, 0, 0): [-1], (0, HIGHEST, 0): [-1], (0, 0, HIGHEST): [-1], (3, 2, 1): [-1],
                            (1, 2, 4): [-1], (1, 3, 3): [-1], (2, 2, 3): [-1], (0, 2, 0): [1, 30]})

    def test_every_way_of_the_stairs(self):
        """A price tells the levels: each of the steps is a power of two."""
        calls = [*stairs((1, 2, 4), (8, 16, 32)), never(A, D), keep(A, B)]
        ways = list(itertools.product(range(5), range(5)))
        for start in range(0, len(ways), 10):
            replied = {}
            for first, second in ways[start:start + 10]:
                price = (0, 1, 3, 7, 0)[first] + (0, 8, 24, 56, 0)[second]
                held = [int(first + second < 3), int(first < 2)]
                replied[first, second] = [int(held == [0, 1]), price, *held]
                if 4 in (first, second):
                    replied[first, second] = [-1]
            self.checks(calls, replied)


class HowManyLevels(Check):
    def test_without_axioms(self):
        self.checks([never(A, B)], {(): [1, 0, 0], (0,): [-1], (1,): [-1], (HIGHEST,): [-1], (0, 0): [-1]})

    def test_too_few_and_too_many(self):
        for count in (1, 2, 3):
            for length in (0, 1, 2, 3, 4, 5, 29, 30):
                self.checks([line(1, A, B)] * count, {(0,) * length: [1, 0] if length == count else [-1]})

    def test_too_many_behind_levels_that_are_there(self):
        self.checks([line(1, A, B), line(2, A, B)], {(1,): [-1], (1, 1): [1, 3], (1, 1, 1): [-1], (1, 1, 0): [-1]})

    def test_nothing_behind_the_list_is_taken(self):
        told = replies(*ONE, check(0, 0, 0), check(), check(0), keep(A, B))
        self.assertEqual(told, [[0], [-1], [-1], [1, 0], [0]])

    def test_counts_after_begins(self):
        told = replies(*ONE, *ONE, check(0, 0), [0], check(0, 0), check())
        self.assertEqual(told[2:], [[1, 0], [0], [-1], [1, 0]])


class Wishes(Check):
    PAIRS = {0: (A, B), 1: (A, A)}

    def test_order_and_verdict(self):
        """Wishes are added with the sorts mixed, in two orders; the unwanted ones are answered first."""
        for held in itertools.product((0, 1), repeat=4):
            first, second, third, fourth = [self.PAIRS[one] for one in held]
            satisfied = int(held == (0, 0, 1, 1))
            for calls in ([keep(*third), never(*first), keep(*fourth), never(*second)],
                          [never(*first), never(*second), keep(*third), keep(*fourth)]):
                self.checks(calls, {(): [satisfied, 0, *held]})
                self.checks(ONE + calls, {(1,): [satisfied, 5, *held]})

    def test_one_sort_alone(self):
        for held in itertools.product((0, 1), repeat=2):
            pairs = [self.PAIRS[one] for one in held]
            self.checks([never(*pair) for pair in pairs], {(): [int(held == (0, 0)), 0, *held]})
            self.checks([keep(*pair) for pair in pairs], {(): [int(held == (1, 1)), 0, *held]})

    def test_one_wish(self):
        for held, pair in self.PAIRS.items():
            self.checks([never(*pair)], {(): [1 - held, 0, held]})
            self.checks([keep(*pair)], {(): [held, 0, held]})

    def test_same_wish_twice(self):
        self.checks([*ONE, never(A, B), keep(A, B)], {(0,): [0, 0, 1, 1], (1,): [0, 5, 0, 0]})
        self.checks([*ONE, keep(A, B), keep(A, B)], {(0,): [1, 0, 1, 1], (1,): [0, 5, 0, 0]})

    def test_it_changes_nothing(self):
        told = replies(*ONE, never(A, B), check(1), check(0), check(1), check(0))
        self.assertEqual(told[2:], [[1, 5, 0], [0, 0, 1]] * 2)


# Axioms, and what holds with all of them at once, but with none of them left out.
TOGETHER = {
    "all, two": ([(ALL, A), (A, B)], (ALL, B)),
    "all, three": ([(ALL, A), (A, B), (both(A, B), C)], (ALL, C)),
    "none, two": ([(A, B), (B, NONE)], (A, NONE)),
    "none, three": ([(A, B), (A, C), (both(B, C), NONE)], (A, NONE)),
    "names, two": ([(A, B), (B, C)], (A, C)),
    "names, three": ([(C, D), (A, B), (B, C)], (A, D)),
    "both, two": ([(A, B), (A, C)], (A, both(B, C))),
    "both, three": ([(both(A, B), C), (A, B), (C, D)], (A, D)),
    "either, two": ([(A, C), (B, C)], (either(A, B), C)),
    "either, three": ([(A, either(B, C)), (B, D), (C, D)], (A, D)),
    "without, two": ([(A, without(B)), (without(B), C)], (A, C)),
    "without, three": ([(without(A), B), (B, C), (A, C)], (ALL, C)),
    "some, two": ([(A, some(0, B)), (B, C)], (A, some(0, C))),
    "some, three": ([(A, some(0, B)), (B, C), (some(0, C), B)], (A, B)),
    "only, two": ([(A, only(0, B)), (B, C)], (A, only(0, C))),
    "only, three": ([(A, only(0, B)), (B, NONE), (only(0, NONE), C)], (A, C)),
    "some and only, two": ([(A, some(0, ALL)), (ALL, only(0, B))], (A, some(0, B))),
    "some and only, three": ([(A, some(1, B)), (A, only(1, C)), (both(B, C), NONE)], (A, NONE)),
    "a role in a role, two": ([(A, some(0, A)), (some(0, some(0, A)), B)], (A, B)),
    "only in some, two": ([(ALL, some(0, only(1, B))), (B, NONE)], (ALL, some(0, only(1, NONE)))),
    "only in some, three": ([(A, only(0, A)), (A, some(0, ALL)), (some(0, only(0, A)), B)], (A, B)),
    "both roles, two": ([(A, some(0, A)), (some(0, A), some(1, B))], (A, some(1, B))),
    "what is needed cannot be, two": ([(A, some(0, B)), (B, some(1, NONE))], (A, NONE)),
    "what is needed cannot be, three": ([(A, some(0, B)), (B, some(1, C)), (C, NONE)], (A, NONE)),
    "nothing can be, two": ([(ALL, A), (A, NONE)], (B, C)),
    "nothing can be, two, by a role": ([(ALL, some(0, A)), (A, NONE)], (ALL, B)),
    "nothing can be, two, by only": ([(ALL, some(1, A)), (ALL, only(1, without(A)))], (ALL, NONE)),
    "nothing can be, three": ([(ALL, some(0, A)), (A, B), (B, NONE)], (C, NONE)),
    "nothing can be, three, by roles": ([(ALL, some(0, A)), (A, some(1, B)), (B, NONE)], (ALL, NONE)),
}


class Together(Check):
    """With all the axioms that a way leaves, not with one alone."""

    def test_with_all_and_with_one_removed(self):
        for name, (axioms, pair) in TOGETHER.items():
            with self.subTest(axioms=name):
                calls = [line(1 << place, *axiom) for place, axiom in enumerate(axioms)] + [never(*pair), keep(*pair)]
                replied = {(0,) * len(axioms): [0, 0, 1, 1]}
                for place in range(len(axioms)):
                    way = tuple(int(place == other) for other in range(len(axioms)))
                    replied[way] = [0, 1 << place, 0, 0]
                replied[(1,) * len(axioms)] = [0, (1 << len(axioms)) - 1, 0, 0]
                self.checks(calls, replied)

    def test_in_any_order(self):
        for name, (axioms, pair) in TOGETHER.items():
            for order in itertools.permutations(axioms):
                with self.subTest(axioms=name):
                    self.checks([keep(*pair)] + [line(1, *axiom) for axiom in order], {(0,) * len(order): [1, 0, 1]})

    def test_ruled_out_step_by_step(self):
        """An element cannot be as one that it needs cannot be, however far that is, in whatever order atoms come."""
        steps = [some(0, NONE)]
        for turn in range(4):
            steps.append(some(turn % 2, steps[-1]))
            self.checks([never(steps[-1], NONE), keep(steps[-1], NONE)], {(): [0, 0, 1, 1]})
        for one, two, three, four in itertools.permutations(steps[:4]):
            axiom = line(1, both(both(one, two), both(three, four)), ALL)
            self.checks([axiom, never(steps[3], A), keep(steps[2], A)], {(0,): [0, 0, 1, 1], (1,): [0, 1, 1, 1]})
        chain = [line(1, A, some(0, B)), line(1, B, some(1, C)), line(1, C, NONE), keep(A, NONE)]
        for calls in itertools.permutations(chain):
            self.checks(calls, {(0, 0, 0): [1, 0, 1], (1, 0, 0): [0, 1, 0], (0, 1, 0): [0, 1, 0], (0, 0, 1): [0, 1, 0]})

    def test_where_an_axiom_is_weaker(self):
        calls = [*stairs((1, 1, 1), (1, 1, 1)), keep(A, D)]
        self.checks(calls, {(2, 0): [1, 2, 1], (0, 2): [1, 2, 1], (1, 1): [1, 2, 1], (2, 1): [0, 3, 0]})
        self.checks(calls, {(1, 2): [0, 3, 0], (2, 2): [0, 4, 0]})

    def test_everything_is_subsumed_where_nothing_can_be(self):
        calls = [line(1, ALL, A), line(2, A, NONE), never(A, B), never(ALL, NONE), keep(B, C), keep(A, A)]
        self.checks(calls, {(0, 0): [0, 0, 1, 1, 1, 1], (1, 0): [0, 1, 1, 0, 0, 1], (0, 1): [0, 2, 0, 0, 0, 1]})

    def test_what_does_not_follow(self):
        calls = [line(1, A, some(0, B)), line(1, A, only(1, C)), line(1, B, A)]
        calls += [keep(A, B), keep(A, some(0, B)), never(A, C), never(B, C)]
        self.checks(calls, {(0, 0, 0): [0, 0, 0, 0, 0, 1]})
        calls = [line(1, A, B), line(1, C, D), keep(B, A), keep(A, D), never(A, C), never(both(A, C), both(B, D))]
        self.checks(calls, {(0, 0): [0, 0, 0, 1, 0, 0], (1, 0): [0, 1, 0, 0, 0, 0]})


if __name__ == "__main__":
    unittest.main()
