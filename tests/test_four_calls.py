"""mend, least, check and done with none to three axioms, and with each sort of wishes or none."""

import unittest

from tests.writing import A, ALL, B, C, D, NONE
from tests.writing import begins, both, check, done, keep, least, less, line, mend, never, replies

AXIOMS = {
    0: [],
    1: [line(9, A, both(B, C)), less(0, 2, A, B)],
    2: [line(3, A, B), line(5, B, C)],
    3: [line(4, A, B), line(2, B, C), line(3, C, D)],
}

# How many axioms, the wishes, the levels for check, then what mend, least, check and done answer.
CASES = [
    (0, [], [], [0], [1, 0], [1, 0], [0, 0]),
    (0, [never(A, B)], [], [0], [1, 0], [1, 0, 0], [0, 0]),
    (0, [never(A, A)], [], [-6], [0], [0, 0, 1], [-6]),
    (0, [never(A, B), never(B, A)], [], [0], [1, 0], [1, 0, 0, 0], [0, 0]),
    (0, [never(A, B), never(NONE, A)], [], [-6], [0], [0, 0, 0, 1], [-6]),
    (0, [keep(A, A)], [], [0], [1, 0], [1, 0, 1], [0, 0]),
    (0, [keep(A, B)], [], [-6], [0], [0, 0, 0], [-6]),
    (0, [keep(A, ALL), keep(B, A)], [], [-6], [0], [0, 0, 1, 0], [-6]),
    (0, [never(A, B), keep(A, A)], [], [0], [1, 0], [1, 0, 0, 1], [0, 0]),
    (0, [never(A, B), keep(A, B)], [], [-6], [0], [0, 0, 0, 0], [-6]),
    (0, [never(A, A), keep(A, A)], [], [-6], [0], [0, 0, 1, 1], [-6]),
    (1, [], [1], [0, 0], [1, 0, 0], [1, 2], [0, 1]),
    (1, [never(A, C)], [1], [2, 1], [1, 2, 1], [1, 2, 0], [2, 1]),
    (1, [never(A, B)], [1], [11, 2], [1, 11, 2], [0, 2, 1], [11, 0]),
    (1, [never(ALL, ALL)], [2], [-6], [0], [0, 11, 1], [-6]),
    (1, [keep(A, B)], [1], [0, 0], [1, 0, 0], [1, 2, 1], [0, 1]),
    (1, [keep(A, C)], [1], [0, 0], [1, 0, 0], [0, 2, 0], [0, 1]),
    (1, [keep(B, A)], [0], [-6], [0], [0, 0, 0], [-6]),
    (1, [never(A, C), keep(A, B)], [1], [2, 1], [1, 2, 1], [1, 2, 0, 1], [2, 1]),
    (1, [never(A, C), keep(A, B)], [2], [2, 1], [1, 2, 1], [0, 11, 0, 0], [2, 1]),
    (1, [never(A, B), keep(A, C)], [1], [-6], [0], [0, 2, 1, 0], [-6]),
    (2, [], [1, 1], [0, 0, 0], [1, 0, 0, 0], [1, 8], [0, 2]),
    (2, [never(A, C)], [0, 0], [3, 1, 0], [2, 5, 0, 1, 3, 1, 0], [0, 0, 1], [3, 1]),
    (2, [never(A, C), never(A, B)], [1, 0], [3, 1, 0], [1, 3, 1, 0], [1, 3, 0, 0], [3, 1]),
    (2, [never(A, B), never(B, C)], [0, 1], [8, 1, 1], [1, 8, 1, 1], [0, 5, 1, 0], [8, 0]),
    (2, [keep(A, C)], [0, 1], [0, 0, 0], [1, 0, 0, 0], [0, 5, 0], [0, 2]),
    (2, [keep(C, A)], [0, 0], [-6], [0], [0, 0, 0], [-6]),
    (2, [never(A, C), keep(A, B)], [0, 1], [5, 0, 1], [1, 5, 0, 1], [1, 5, 0, 1], [5, 1]),
    (2, [never(A, C), keep(A, B), keep(B, C)], [1, 0], [-6], [0], [0, 3, 0, 0, 1], [-6]),
    (3, [], [1, 0, 1], [0, 0, 0, 0], [1, 0, 0, 0, 0], [1, 7], [0, 3]),
    (3, [never(A, D)], [0, 0, 0], [2, 0, 1, 0], [3, 3, 0, 0, 1, 2, 0, 1, 0, 4, 1, 0, 0], [0, 0, 1], [2, 2]),
    (3, [never(A, C), never(C, D)], [0, 1, 1], [5, 0, 1, 1], [2, 5, 0, 1, 1, 7, 1, 0, 1], [1, 5, 0, 0], [5, 1]),
    (3, [keep(A, D), keep(B, D)], [1, 0, 0], [0, 0, 0, 0], [1, 0, 0, 0, 0], [0, 4, 0, 1], [0, 3]),
    (3, [keep(A, D), keep(D, A)], [0, 0, 0], [-6], [0], [0, 0, 1, 0], [-6]),
    (3, [never(A, D), keep(A, C)], [0, 0, 1], [3, 0, 0, 1], [1, 3, 0, 0, 1], [1, 3, 0, 1], [3, 2]),
    (3, [never(A, D), keep(B, D)], [0, 0, 1], [4, 1, 0, 0], [1, 4, 1, 0, 0], [0, 3, 0, 0], [4, 2]),
    (3, [never(A, D), never(B, D), keep(A, B)], [0, 1, 0], [2, 0, 1, 0], [2, 3, 0, 0, 1, 2, 0, 1, 0],
     [1, 2, 0, 0, 1], [2, 2]),
]


class FourCalls(unittest.TestCase):
    def test_each_alone(self):
        for count, wishes, levels, *told in CASES:
            for call, reply in zip((mend(), least(), check(*levels), done()), told):
                with self.subTest(axioms=count, wishes=wishes, call=call):
                    self.assertEqual(replies(*AXIOMS[count], *wishes, call)[-1], reply)

    def test_one_behind_another(self):
        for count, wishes, levels, *told in CASES:
            with self.subTest(axioms=count, wishes=wishes):
                calls = AXIOMS[count] + wishes + [mend(), least(), check(*levels), done()]
                self.assertEqual(replies(*calls)[-4:], told)

    def test_wishes_ahead_of_the_axioms(self):
        for count, wishes, levels, *told in CASES:
            with self.subTest(axioms=count, wishes=wishes):
                calls = wishes + AXIOMS[count] + [mend(), least(), check(*levels), done()]
                self.assertEqual(replies(*calls)[-4:], told)

    def test_after_begins(self):
        before = [line(1, A, NONE), less(0, 1, A, A), never(C, D), keep(D, D), begins()]
        for count, wishes, levels, *told in CASES:
            with self.subTest(axioms=count, wishes=wishes):
                calls = before + AXIOMS[count] + wishes + [mend(), least(), check(*levels), done()]
                self.assertEqual(replies(*calls)[-4:], told)

    def test_every_sort_of_wishes_with_each_count(self):
        sorts = {count: set() for count in AXIOMS}
        for count, wishes, *told in CASES:
            sorts[count].add(tuple(sorted({wish[0] for wish in wishes})))
        for count, found in sorts.items():
            self.assertEqual(found, {(), (3,), (4,), (3, 4)}, count)


if __name__ == "__main__":
    unittest.main()
