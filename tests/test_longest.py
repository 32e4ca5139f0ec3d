"""The longest lists of calls: everything that a request may hold at once, answered in a few seconds."""

import time
import unittest

from tests.test_points import plain_replies
from tests.writing import A, ALL, B, NONE
from tests.writing import both, check, done, either, keep, least, less, line, mend, never, only, replies, some

P = some(0, A)
Q = only(1, P)
R = some(1, Q)
SECONDS = 5


def padded(*pair):
    """The pair in thirty numbers or one less: not and not again are set ahead of its second concept."""
    return pair[0], [5, 5] * ((30 - sum(map(len, pair))) // 2) + pair[1]


AXIOMS = [
    line(31, *padded(A, both(Q, R))), less(0, 3, *padded(A, Q)), less(0, 5, *padded(A, either(Q, R))),
    line(7, *padded(either(Q, R), B)), less(1, 11, *padded(Q, B)), less(1, 13, *padded(both(Q, R), B)),
    line(17, *padded(B, both(P, R))), less(2, 19, *padded(B, P)),
]
LAST = less(2, 23, *padded(B, either(P, R)))
WISHES = [
    never(*padded(A, P)), never(*padded(both(A, R), B)), keep(*padded(R, some(1, Q))), keep(*padded(Q, only(1, P))),
]
REFUSED = [less(2, 1, *padded(P, R)), less(2, 1, *padded(B, Q)), never(*padded(A, B)), keep(*padded(R, B))]
WAYS = [(0, 0, 0), (1, 1, 1), (2, 2, 2), (3, 3, 3), (3, 0, 0), (0, 3, 0), (0, 0, 3), (2, 1, 0), (0, 1, 2), (1, 0, 2)]


def whole(*asked):
    """Sixty calls: everything is added, with refused calls among it, then asked."""
    between = (REFUSED * 9)[:33]
    calls = AXIOMS + WISHES + between + [LAST] + [check(*way) for way in WAYS] + list(asked)
    if len(calls) != 60:
        raise AssertionError(len(calls))
    return calls


class Longest(unittest.TestCase):
    def in_time(self, calls):
        start = time.perf_counter()
        told = replies(*calls)
        self.assertLess(time.perf_counter() - start, SECONDS)
        self.assertEqual(told, plain_replies(calls))
        return told

    def test_everything_is_taken(self):
        told = replies(*whole(mend(), mend(), mend(), mend()))
        self.assertEqual(told[:12], [[0], [1], [2], [1], [1], [2], [2], [1], [0], [1], [0], [1]])
        self.assertEqual(told[12:45], ([[-5], [-5], [-7], [-7]] * 9)[:33])
        self.assertEqual(told[45], [2])

    def test_each_call_alone(self):
        for call in (mend(), least(), done()):
            with self.subTest(call=call):
                self.in_time(whole(call, call, call, call))

    def test_all_together(self):
        told = self.in_time(whole(mend(), least(), done(), mend()))
        self.assertGreater(told[-4][0], 0)
        self.assertGreater(told[-3][0], 1)
        self.assertEqual(told[-2][0], told[-4][0])
        self.assertEqual(set(told[-1]), {0})

    def test_elements_are_ruled_out_one_after_another(self):
        """Each element needs another one, and the last one cannot be."""
        deep = ALL
        for turn in range(5):
            deep = some(turn % 2, deep)
        steps = [deep[2 * start:] for start in range(6)]
        chains = []
        for index in range(3):
            chains += [line(1000, *padded(steps[4 - index], NONE)), less(index, 1, *padded(steps[3 - index], NONE))]
            chains += [less(index, 1, *padded(steps[2 - index], NONE))]
        wishes = [never(*padded(deep, NONE)), never(*padded(steps[1], NONE)), keep(*padded(deep, deep))]
        wishes.append(keep(deep, ALL))
        calls = chains + wishes + [never(ALL, ALL)] * 33 + [check(*way) for way in WAYS]
        told = self.in_time(calls + [mend(), least(), done(), mend()])
        self.assertEqual(told[:9], [[0], [1], [2], [1], [1], [2], [2], [1], [2]])
        self.assertEqual(told[-4:], [[3006, 3, 3, 3], [1, 3006, 3, 3, 3], [3006, 0], [0]])

    def test_long_numbers_without_a_sense(self):
        for call in (line(1, [3] * 30), never([6, 0] * 15), keep([4] * 15 + [0] * 15), check(*[0] * 30)):
            count = 10 if call[0] == 7 else 60
            self.assertEqual(self.in_time([call] * count), [[-1]] * count)


if __name__ == "__main__":
    unittest.main()
