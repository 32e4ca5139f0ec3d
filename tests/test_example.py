"""The document's example, from its first row to its last, in one list of calls."""

import unittest

from tests.writing import A, ALL, B, C, D, both, check, done, either, keep, least, less, line, mend, never, replies
from weakenings.service import answers

EXAMPLE = [
    (line(9, A, both(B, C)), [0]),
    (less(0, 2, A, C), [1]),
    (less(0, 4, A, either(B, C)), [2]),
    (line(5, B, D), [1]),
    (never(A, D), [0]),
    (mend(), [2, 1, 0]),
    (least(), [2, 5, 0, 1, 2, 1, 0]),
    (check(0, 0), [0, 0, 1]),
    (check(1, 0), [1, 2, 0]),
    (keep(A, B), [0]),
    (mend(), [5, 0, 1]),
    (less(1, 1, D, B), [-5]),
    (check(0), [-1]),
    (keep(A, C), [1]),
    (never(B, D), [1]),
    (least(), [1, 5, 0, 1]),
    (done(), [5, 1]),
    (mend(), [0, 0]),
    (less(9, 1, ALL, ALL), [-2]),
    (line(0, ALL, ALL), [-1]),
    (check(0, 9), [-1]),
    (check(0), [1, 0, 0, 0, 1, 1]),
]


class Example(unittest.TestCase):
    def test_call_by_call(self):
        told = replies(*[call for call, reply in EXAMPLE])
        for place, (call, reply) in enumerate(EXAMPLE):
            with self.subTest(place=place, call=call):
                self.assertEqual(told[place], reply)

    def test_number_by_number(self):
        calls = [1, 9, 7, 2, 0, 3, 2, 1, 2, 2, 2, 0, 2, 4, 2, 0, 2, 2, 2, 0, 4, 7, 2, 0, 4, 2, 1, 2, 2]
        calls += [1, 5, 4, 2, 1, 2, 3, 3, 4, 2, 0, 2, 3, 5, 6, 7, 2, 0, 0, 7, 2, 1, 0, 4, 4, 2, 0, 2, 1, 5]
        calls += [2, 1, 1, 4, 2, 3, 2, 1, 7, 1, 0, 4, 4, 2, 0, 2, 2, 3, 4, 2, 1, 2, 3, 6, 8, 5]
        calls += [2, 9, 1, 3, 2, 0, 0, 1, 0, 3, 2, 0, 0, 7, 2, 0, 9, 7, 1, 0]
        told = [1, 0, 1, 1, 1, 2, 1, 1, 1, 0, 3, 2, 1, 0, 7, 2, 5, 0, 1, 2, 1, 0, 3, 0, 0, 1, 3, 1, 2, 0, 1, 0]
        told += [3, 5, 0, 1, 1, -5, 1, -1, 1, 1, 1, 1, 4, 1, 5, 0, 1, 2, 5, 1, 2, 0, 0, 1, -2, 1, -1, 1, -1]
        told += [6, 1, 0, 0, 0, 1, 1]
        self.assertEqual(answers(calls), told)


if __name__ == "__main__":
    unittest.main()
