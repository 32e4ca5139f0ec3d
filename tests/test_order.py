"""If several errors apply, the one listed first is returned."""

import unittest

from tests.writing import A, ALL, B, C, D, NONE, both, keep, less, line, never, results, some

HIGHEST = 4294967295
FOUR = both(both(A, B), both(C, D))
FIVE = both(FOUR, some(0, ALL))
SIXTH = some(1, ALL)
CUT_OFF = [3, 2, 0]
FULL_ATOMS = [keep(FIVE, ALL)]


class Line(unittest.TestCase):
    def last(self, *calls):
        return results(*calls)[-1]

    def test_numbers_before_axioms(self):
        self.assertEqual(self.last(*[line(1, A, B)] * 3, line(1, CUT_OFF)), -1)

    def test_price_before_axioms(self):
        for price in (0, 1001, HIGHEST):
            self.assertEqual(self.last(*[line(1, A, B)] * 3, line(price, A, B)), -1)

    def test_numbers_before_atoms(self):
        self.assertEqual(self.last(*FULL_ATOMS, line(1, SIXTH, [2])), -1)
        self.assertEqual(self.last(line(1, FIVE, SIXTH, ALL)), -1)

    def test_price_before_atoms(self):
        self.assertEqual(self.last(*FULL_ATOMS, line(0, SIXTH, ALL)), -1)
        self.assertEqual(self.last(line(1001, FIVE, SIXTH)), -1)

    def test_numbers_and_price(self):
        self.assertEqual(self.last(line(0, CUT_OFF)), -1)

    def test_axioms_and_atoms(self):
        self.assertEqual(self.last(*[line(1, FIVE, ALL)] * 3, line(1, SIXTH, ALL)), -7)


class Less(unittest.TestCase):
    def last(self, *calls):
        return results(*calls)[-1]

    def test_numbers_before_index(self):
        self.assertEqual(self.last(less(0, 1, CUT_OFF)), -1)
        self.assertEqual(self.last(line(1, A, B), less(1, 1, A)), -1)
        self.assertEqual(self.last(line(1, A, B), less(HIGHEST, 1, A, B, C)), -1)

    def test_price_before_index(self):
        for price in (0, 1001, HIGHEST):
            self.assertEqual(self.last(less(0, price, A, A)), -1)
            self.assertEqual(self.last(line(1, A, B), less(1, price, A, A)), -1)

    def test_numbers_before_room(self):
        forms = [line(1, A, B), less(0, 1, A, B), less(0, 1, A, B)]
        self.assertEqual(self.last(*forms, less(0, 1, CUT_OFF)), -1)
        self.assertEqual(self.last(line(1, FIVE, NONE), less(0, 1, SIXTH, [5])), -1)

    def test_price_before_room(self):
        forms = [line(1, A, B), less(0, 1, A, B), less(0, 1, A, B)]
        self.assertEqual(self.last(*forms, less(0, 0, A, B)), -1)
        self.assertEqual(self.last(line(1, FIVE, NONE), less(0, 1001, SIXTH, SIXTH)), -1)

    def test_numbers_and_price_before_weakness(self):
        self.assertEqual(self.last(line(1, A, B), less(0, 1, B, A, A)), -1)
        self.assertEqual(self.last(line(1, A, B), less(0, 0, B, A)), -1)
        self.assertEqual(self.last(line(1, A, B), less(0, 1001, B, A)), -1)

    def test_index_before_room(self):
        forms = [line(1, A, B), less(0, 1, A, B), less(0, 1, A, B)]
        self.assertEqual(self.last(*forms, less(1, 1, A, B)), -2)
        self.assertEqual(self.last(*FULL_ATOMS, less(0, 1, SIXTH, SIXTH)), -2)
        self.assertEqual(self.last(line(1, FIVE, ALL), less(1, 1, SIXTH, SIXTH)), -2)

    def test_index_before_weakness(self):
        self.assertEqual(self.last(less(0, 1, ALL, NONE)), -2)
        self.assertEqual(self.last(line(1, A, B), less(1, 1, B, A)), -2)

    def test_room_for_forms_before_weakness(self):
        forms = [line(1, A, B), less(0, 1, A, B), less(0, 1, A, B)]
        self.assertEqual(self.last(*forms, less(0, 1, B, A)), -7)

    def test_room_for_atoms_before_weakness(self):
        self.assertEqual(self.last(line(1, FIVE, ALL), less(0, 1, ALL, SIXTH)), -7)
        self.assertEqual(self.last(line(1, A, B), *FULL_ATOMS, less(0, 1, ALL, SIXTH)), -7)

    def test_all_at_once(self):
        forms = [line(1, FIVE, ALL), less(0, 1, FIVE, ALL), less(0, 1, FIVE, ALL)]
        self.assertEqual(self.last(*forms, less(1, 0, ALL, SIXTH)), -1)
        self.assertEqual(self.last(*forms, less(1, 1, ALL, SIXTH)), -2)
        self.assertEqual(self.last(*forms, less(0, 1, ALL, SIXTH)), -7)
        self.assertEqual(self.last(*forms[:2], less(0, 1, ALL, A)), -5)


class Wishes(unittest.TestCase):
    def test_numbers_before_room(self):
        for wish in (never, keep):
            self.assertEqual(results(*[wish(A, B)] * 2, wish(A), wish(), wish(A, B, C)), [0, 1, -1, -1, -1])
            self.assertEqual(results(*FULL_ATOMS, wish(SIXTH), wish(SIXTH, ALL, ALL))[1:], [-1, -1])

    def test_wishes_and_atoms(self):
        for wish in (never, keep):
            self.assertEqual(results(*[wish(FIVE, ALL)] * 2, wish(SIXTH, ALL)), [0, 1, -7])


if __name__ == "__main__":
    unittest.main()
