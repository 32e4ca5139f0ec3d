"""An operation that returns an error changes nothing."""

import unittest

from tests.writing import A, ALL, B, C, D, NONE
from tests.writing import both, check, done, keep, least, less, line, mend, never, replies, results, some
from weakenings.errors import NoRepair, NoRoom, NoSuchAxiom, NotWeaker, WrongNumbers
from weakenings.store import Store

THREE = both(A, both(B, C))
FOUR = both(THREE, D)
TWO_MORE = both(some(0, ALL), some(1, ALL))
CUT_OFF = [3, 2, 0]

# Calls that are refused where there is one axiom, from all to all, and FOUR is taken.
REFUSED = {
    "line, numbers": (line(1, CUT_OFF), -1),
    "line, a concept too many": (line(1, ALL, ALL, TWO_MORE), -1),
    "line, price": (line(1001, ALL, some(0, ALL)), -1),
    "line, atoms": (line(1, ALL, TWO_MORE), -7),
    "less, numbers": (less(0, 1, CUT_OFF), -1),
    "less, price": (less(0, 0, ALL, ALL), -1),
    "less, index": (less(1, 1, ALL, ALL), -2),
    "less, atoms": (less(0, 1, NONE, TWO_MORE), -7),
    "less, not weaker": (less(0, 1, ALL, A), -5),
    "less, not weaker with a free atom": (less(0, 1, ALL, some(0, ALL)), -5),
    "never, numbers": (never(CUT_OFF), -1),
    "never, atoms": (never(TWO_MORE, ALL), -7),
    "keep, numbers": (keep(CUT_OFF), -1),
    "keep, atoms": (keep(TWO_MORE, ALL), -7),
    "check, no levels": (check(), -1),
    "check, too many levels": (check(0, 0), -1),
    "check, no such level": (check(3), -1),
}

# Each of these takes room that a refused call could have taken, up to the last that there is.
AFTERWARDS = {
    "axioms": ([line(1, A, B)] * 3, [1, 2, -7]),
    "forms": ([less(0, 1, ALL, ALL)] * 3, [1, 2, -7]),
    "unwanted": ([never(A, B)] * 3, [0, 1, -7]),
    "wanted": ([keep(A, B)] * 2, [1, -7]),
    "a fifth atom of a role": ([never(ALL, some(0, ALL)), keep(some(1, ALL), ALL)], [0, -7]),
    "another fifth atom": ([keep(ALL, some(1, ALL)), line(1, some(0, ALL), ALL)], [1, -7]),
    "no index": ([less(1, 1, ALL, ALL)], [-2]),
    "last form": ([less(0, 1, ALL, A), less(0, 1, A, A)], [-5, 1]),
}


class Afterwards(unittest.TestCase):
    BEFORE = [line(7, ALL, ALL), keep(FOUR, ALL)]

    def test_same_answers_as_without(self):
        for name, (calls, answers) in AFTERWARDS.items():
            self.assertEqual(results(*self.BEFORE, *calls), [0, 0] + answers[:len(calls)], name)

    def test_after_each_refusal(self):
        for refused, (call, code) in REFUSED.items():
            for name, (calls, answers) in AFTERWARDS.items():
                with self.subTest(refused=refused, then=name):
                    self.assertEqual(results(*self.BEFORE, call, *calls), [0, 0, code] + answers[:len(calls)])

    def test_after_all_refusals_many_times(self):
        calls = [call for call, code in REFUSED.values()] * 3
        codes = [code for call, code in REFUSED.values()] * 3
        for name, (later, answers) in AFTERWARDS.items():
            with self.subTest(then=name):
                self.assertEqual(results(*self.BEFORE, *calls, *later), [0, 0] + codes + answers[:len(later)])

    def test_full_lists_stay_usable(self):
        axioms = [line(1, A, B)] * 4 + [less(2, 1, A, B), less(2, 1, A, B), less(2, 1, A, B)]
        self.assertEqual(results(*axioms, less(1, 1, A, B)), [0, 1, 2, -7, 1, 2, -7, 1])
        for wish, other in ((never, keep), (keep, never)):
            self.assertEqual(results(*[wish(THREE, ALL)] * 3, other(D, TWO_MORE), other(D, ALL)), [0, 1, -7, -7, 0])


class NoWay(unittest.TestCase):
    """mend and done, where no way satisfies all wishes."""

    BEFORE = [line(9, A, both(B, C)), less(0, 2, A, B), line(5, B, D), never(A, C), keep(A, C)]
    AFTERWARDS = [check(0, 0), check(1, 1), check(2, 1), check(3, 0), least(), less(0, 4, A, B), less(1, 1, B, D),
                  less(2, 1, A, A), line(3, A, A), never(A, D), keep(A, A), never(A, A), check(0, 2, 1)]
    TOLD = [[0, 0, 1, 1], [0, 7, 0, 0], [0, 16, 0, 0], [-1], [0], [2], [1], [-2], [2], [1], [1], [-7],
            [0, 9, 1, 0, 1, 1]]

    def test_same_answers_as_without(self):
        self.assertEqual(replies(*self.BEFORE, *self.AFTERWARDS)[5:], self.TOLD)

    def test_after_refusals(self):
        for refused in ([mend()], [done()], [done(), mend()], [mend(), done(), done()]):
            with self.subTest(refused=refused):
                told = replies(*self.BEFORE, *refused, *self.AFTERWARDS)[5:]
                self.assertEqual(told, [[-6]] * len(refused) + self.TOLD)


class Inside(unittest.TestCase):
    """What is kept for later operations is as before, too."""

    def kept(self, store):
        axioms = [(list(axiom.forms), list(axiom.prices)) for axiom in store.axioms]
        return axioms, list(store.unwanted), list(store.wanted)

    def test_each_refusal(self):
        full = Store()
        for turn in range(3):
            full.line(5, FOUR + ALL)
        for turn in range(2):
            full.less(0, 6, FOUR + ALL)
            full.never(FOUR + ALL)
            full.keep(FOUR + ALL)
        refused = [
            (WrongNumbers, lambda: full.line(5, A)),
            (WrongNumbers, lambda: full.line(0, A + A)),
            (NoRoom, lambda: full.line(5, A + A)),
            (WrongNumbers, lambda: full.less(1, 5, A)),
            (WrongNumbers, lambda: full.less(1, 1001, A + A)),
            (NoSuchAxiom, lambda: full.less(3, 5, A + A)),
            (NoRoom, lambda: full.less(0, 5, A + A)),
            (NoRoom, lambda: full.less(1, 5, TWO_MORE + ALL)),
            (NotWeaker, lambda: full.less(1, 5, ALL + A)),
            (WrongNumbers, lambda: full.never(A)),
            (NoRoom, lambda: full.never(A + A)),
            (WrongNumbers, lambda: full.keep(A)),
            (NoRoom, lambda: full.keep(A + A)),
            (WrongNumbers, lambda: full.check([0, 0])),
            (WrongNumbers, lambda: full.check([0, 0, 0, 0])),
            (WrongNumbers, lambda: full.check([4, 0, 0])),
            (WrongNumbers, lambda: full.check([3, 1, 2])),
            (NoRepair, full.mend),
            (NoRepair, full.done),
        ]
        before = self.kept(full)
        for error, call in refused:
            self.assertRaises(error, call)
            self.assertEqual(self.kept(full), before)


if __name__ == "__main__":
    unittest.main()
