"""-1: the numbers are not exactly two concepts, or the price is not from 1 to 1000."""

import unittest

from tests.writing import A, ALL, B, NONE, both, either, keep, less, line, never, only, results, some, without

HIGHEST = 4294967295

WRONG = {
    "empty": [],
    "one concept of one number": [0],
    "one name": [2, 0],
    "one concept of two": [3, 2, 0, 2, 1],
    "three concepts": [0, 1, 0],
    "three names": [2, 0, 2, 1, 2, 2],
    "a number behind two concepts": [2, 0, 2, 1, 0],
    "a wrong number behind two concepts": [2, 0, 2, 1, 9],
    "a name cut off": [0, 2],
    "both cut off": [0, 3, 2, 0],
    "both cut off at once": [0, 3],
    "either cut off": [2, 0, 4, 1],
    "without cut off": [0, 5],
    "some cut off behind the role": [0, 6, 0],
    "some cut off ahead of the role": [0, 6],
    "only cut off behind the role": [0, 7, 1],
    "only cut off ahead of the role": [0, 7],
    "the first concept takes the second": [3, 0, 1],
    "name 4": [2, 4, 0],
    "name 4 in the second concept": [0, 2, 4],
    "the highest name": [2, HIGHEST, 0],
    "role 2 of some": [6, 2, 0, 0],
    "role 2 of only": [0, 7, 2, 0],
    "role 3": [6, 3, 0, 0],
    "the highest role": [0, 6, HIGHEST, 0],
    "8": [8, 0],
    "8 in the second concept": [0, 8],
    "8 inside": [0, 3, 8, 0],
    "9": [0, 5, 9],
    "the highest number": [HIGHEST, 0],
    "the highest number inside": [6, 1, HIGHEST, 0],
    "thirty numbers, none whole": [5] * 30,
    "thirty concepts": [0] * 30,
    "thirty numbers of one concept": [5] * 29 + [0],
    "thirty numbers and the last cut off": [5] * 28 + [0, 2],
}

RIGHT = {
    "all and none": [0, 1],
    "none and all": [1, 0],
    "name 3 twice": [2, 3, 2, 3],
    "name 0": [2, 0, 0],
    "both": [3, 2, 0, 2, 1, 0],
    "either": [0, 4, 2, 0, 2, 1],
    "without": [5, 0, 5, 1],
    "some with both roles": [6, 0, 0, 6, 1, 0],
    "only with both roles": [7, 0, 0, 7, 1, 0],
    "each sign": both(either(A, without(B)), some(0, only(1, NONE))) + ALL,
    "thirty numbers, nested": [5] * 28 + [0, 1],
    "thirty numbers, both names": [3] * 9 + [2, 0] * 10 + [0],
    "thirty numbers, in the second concept": [0] + [4] * 9 + [2, 1] * 10,
}


class Concepts(unittest.TestCase):
    def calls_with(self, numbers):
        """Each call that has concepts, where nothing but these numbers could be refused."""
        return {"line": [line(1, numbers)], "never": [never(numbers)], "keep": [keep(numbers)]}

    def test_sizes_of_the_long_ones(self):
        for table in (WRONG, RIGHT):
            for name, numbers in table.items():
                if name.startswith("thirty"):
                    self.assertEqual(len(numbers), 30, name)

    def test_wrong(self):
        for name, numbers in WRONG.items():
            for call, calls in self.calls_with(numbers).items():
                with self.subTest(call=call, numbers=name):
                    self.assertEqual(results(*calls), [-1])

    def test_wrong_in_less(self):
        for name, numbers in WRONG.items():
            with self.subTest(numbers=name):
                self.assertEqual(results(line(1, ALL, NONE), less(0, 1, numbers)), [0, -1])

    def test_right(self):
        for name, numbers in RIGHT.items():
            for call, calls in self.calls_with(numbers).items():
                with self.subTest(call=call, numbers=name):
                    self.assertEqual(results(*calls), [0])

    def test_right_in_less(self):
        for name, numbers in RIGHT.items():
            with self.subTest(numbers=name):
                self.assertEqual(results(line(1, ALL, NONE), less(0, 1, numbers)), [0, 1])


class Prices(unittest.TestCase):
    PRICES = {0: False, 1: True, 2: True, 999: True, 1000: True, 1001: False, HIGHEST: False}

    def test_line(self):
        for price, right in self.PRICES.items():
            with self.subTest(price=price):
                self.assertEqual(results(line(price, A, B)), [0 if right else -1])

    def test_less(self):
        for price, right in self.PRICES.items():
            with self.subTest(price=price):
                self.assertEqual(results(line(1, A, B), less(0, price, A, B)), [0, 1 if right else -1])


class Indexes(unittest.TestCase):
    """-2: there is no such axiom."""

    def test_none_there(self):
        for index in (0, 1, 2, 3, HIGHEST):
            with self.subTest(index=index):
                self.assertEqual(results(less(index, 1, A, A)), [-2])

    def test_behind_the_last(self):
        for count in (1, 2, 3):
            for index in (0, 1, 2, 3, HIGHEST):
                with self.subTest(count=count, index=index):
                    told = results(*[line(1, A, B)] * count, less(index, 1, A, B))
                    self.assertEqual(told[-1], 1 if index < count else -2)


if __name__ == "__main__":
    unittest.main()
