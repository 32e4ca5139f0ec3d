"""What is handed in is not changed, nothing is kept, and nothing is printed, read or nested too deep."""

import contextlib
import io
import sys
import unittest

from tests.writing import A, ALL, B, C, NONE, begins, both, check, done, flat, keep, least, less, line, mend, never
from tests.writing import some, taken_apart, without
from weakenings.service import answers


class Watched(list):
    """A list that refuses each change."""

    def refuse(self, *anything):
        raise AssertionError("what is handed in is changed")

    __setitem__ = __delitem__ = __iadd__ = __imul__ = refuse
    append = extend = insert = pop = remove = clear = sort = reverse = refuse


MIXED = flat([
    line(9, A, both(B, C)), less(0, 2, A, C), line(0, A, B), less(0, 1, C, A), never(A, some(0, ALL)), keep(A, B),
    keep(ALL), less(4, 1, A, A), keep(B, C), keep(C, C), never(both(some(1, B), some(1, C)), A), begins(),
    line(3, some(1, ALL), C), less(0, 1, some(1, A), without(without(C))), line(4, C, B), never(some(1, ALL), B),
    mend(), least(), check(1, 0), check(0, 3), check(0), keep(some(1, A), B), done(), check(0), check(0, 0),
    never(NONE, A), done(), check(1, 1),
])
ANSWERS = [[answer] for answer in (0, 1, -1, -5, 0, 0, -1, -2, 1, -7, -7, 0, 0, 1, 1, 0)]
ANSWERS += [[1, 1, 0], [2, 4, 0, 1, 1, 1, 0], [1, 1, 0], [-1], [-1], [0], [1, 2], [-1], [1, 0, 0, 1]]
ANSWERS += [[1], [-6], [0, 7, 0, 1, 0]]


class HandedIn(unittest.TestCase):
    def test_list_is_as_it_was(self):
        calls = list(MIXED)
        answers(calls)
        self.assertEqual(calls, MIXED)

    def test_list_is_not_changed_for_a_while(self):
        self.assertEqual(taken_apart(answers(Watched(MIXED))), ANSWERS)

    def test_same_list_again(self):
        calls = list(MIXED)
        first = answers(calls)
        self.assertEqual(taken_apart(first), ANSWERS)
        self.assertEqual(answers(calls), first)
        self.assertEqual(answers(calls), first)

    def test_nothing_is_kept(self):
        self.assertEqual(answers(flat([line(1, A, B), keep(A, B)])), [1, 0, 1, 0])
        self.assertEqual(answers(flat([less(0, 1, A, B), check(), mend()])), [1, -2, 2, 1, 0, 1, 0])
        self.assertEqual(answers(flat([line(1, A, B), keep(A, B), never(A, B), done()])), [1, 0] * 3 + [1, -6])
        self.assertEqual(answers(flat([line(1, A, B), done()])), [1, 0, 2, 0, 1])

    def test_answers_are_a_new_list_of_whole_numbers(self):
        first = answers(MIXED)
        self.assertIs(type(first), list)
        self.assertEqual({type(number) for number in first}, {int})
        first.append(99)
        self.assertEqual(answers(MIXED), first[:-1])


class Quiet(unittest.TestCase):
    def test_nothing_is_printed_or_read(self):
        class Closed(io.StringIO):
            def read(self, *anything):
                raise AssertionError("something is read")

            readline = read

        printed, warned, before = io.StringIO(), io.StringIO(), sys.stdin
        sys.stdin = Closed()
        try:
            with contextlib.redirect_stdout(printed), contextlib.redirect_stderr(warned):
                answers(MIXED)
        finally:
            sys.stdin = before
        self.assertEqual(printed.getvalue() + warned.getvalue(), "")


class Depth(unittest.TestCase):
    """Loops go through what is nested or long: few calls within one another are enough."""

    def depth(self):
        frame, count = sys._getframe(), 0
        while frame is not None:
            frame, count = frame.f_back, count + 1
        return count

    def told(self, calls):
        before = sys.getrecursionlimit()
        sys.setrecursionlimit(self.depth() + 18)
        try:
            return answers(calls)
        finally:
            sys.setrecursionlimit(before)

    def test_nested(self):
        nested = {
            "without": [5] * 27 + A,
            "both, left": [3] * 13 + [0] * 14,
            "both, right": [3, 0] * 13 + [0],
            "either, right": [4, 1] * 13 + [1],
            "roles": [6, 0, 5, 7, 1, 5, 5, 6, 1, 5, 7, 0, 5, 5, 5, 5, 5, 5, 5, 5, 5, 5, 5, 0],
        }
        for name, concept in nested.items():
            with self.subTest(nested=name):
                self.assertEqual(self.told(flat([line(1, ALL, concept), less(0, 1, ALL, concept)])), [1, 0, 1, 1])
                calls = [line(1, ALL, concept), never(ALL, concept), keep(concept, ALL), check(0), done(), check()]
                told = taken_apart(self.told(flat(calls)))
                everything = name in ("both, left", "both, right")
                self.assertEqual(told[3], [0, 0, 1, 1])
                self.assertEqual(told[4:], [[-6], [-1]] if everything else [[1, 0], [1, 0, 0, 1]])

    def test_cut_off_deep_inside(self):
        self.assertEqual(self.told(flat([line(1, [5] * 30), line(1, [3] * 30)])), [1, -1, 1, -1])

    def test_long(self):
        calls = flat([keep([3] * 14 + [0] * 16)] * 60)
        self.assertEqual(self.told(calls), [1, 0, 1, 1] + [1, -7] * 58)


if __name__ == "__main__":
    unittest.main()
