"""done: the repair is carried out; what is left goes on as what is there."""

import unittest

from tests.writing import A, ALL, B, C, D, NONE
from tests.writing import both, check, done, either, keep, least, less, line, mend, never, replies, some, stairs

FORMS = [line(9, A, both(B, C)), less(0, 2, A, B), less(0, 4, A, either(B, C))]


class Done(unittest.TestCase):
    def leaves(self, calls, *told):
        """told: what done answers after the calls, and for further calls, what they answer behind it."""
        behind = [call for call, reply in told[1:]]
        replied = [told[0]] + [reply for call, reply in told[1:]]
        self.assertEqual(replies(*calls, done(), *behind)[len(calls):], replied)


class Deleted(Done):
    def test_numbers_decrease(self):
        """Each axiom's price of removal tells which one it is."""
        chain = [line(2, A, B), line(30, B, C), line(400, C, D)]
        self.leaves([*chain, never(A, D)], [2, 2], (check(1, 0), [1, 30, 0]), (check(0, 1), [1, 400, 0]),
                    (less(0, 1, B, C), [1]), (less(0, 1, C, D), [-5]), (less(1, 1, C, D), [1]),
                    (less(2, 1, C, D), [-2]), (check(2, 0), [1, 31, 0]), (check(0, 0, 0), [-1]))

    def test_each_place(self):
        for place in range(3):
            prices = [100, 200, 400]
            prices[place] = 1
            chain = [line(prices[0], A, B), line(prices[1], B, C), line(prices[2], C, D)]
            left = prices[:place] + prices[place + 1:]
            self.leaves([*chain, never(A, D)], [1, 2], (check(1, 0), [1, left[0], 0]), (check(0, 1), [1, left[1], 0]),
                        (check(1, 1), [1, sum(left), 0]), (check(0, 0, 0), [-1]), (mend(), [0, 0, 0]))

    def test_what_is_left_are_the_others(self):
        wishes = [keep(B, C), keep(C, D), never(A, B)]
        chain = [line(1, A, B), line(1, B, C), line(1, C, D)]
        self.leaves([*chain, *wishes], [1, 2], (check(0, 0), [1, 0, 0, 1, 1]), (check(1, 0), [0, 1, 0, 0, 1]),
                    (check(0, 1), [0, 1, 0, 1, 0]))

    def test_two_of_three(self):
        self.leaves([line(2, A, B), line(30, B, C), line(4, A, both(B, B)), never(A, B)], [6, 1],
                    (check(1), [1, 30, 0]), (less(0, 1, B, C), [1]), (less(1, 1, B, C), [-2]))

    def test_all(self):
        for count in (1, 2, 3):
            self.leaves([line(7, A, B)] * count + [never(A, B)], [7 * count, 0], (mend(), [0]), (least(), [1, 0]),
                        (check(), [1, 0, 0]), (check(0), [-1]), (less(0, 1, A, B), [-2]), (line(1, B, A), [0]))

    def test_with_all_its_forms(self):
        self.leaves([*FORMS, line(1, B, B), never(A, either(B, C))], [15, 1], (check(1), [1, 1, 0]),
                    (check(2), [-1]), (less(0, 1, B, B), [1]), (less(1, 1, A, A), [-2]))

    def test_room_for_axioms(self):
        chain = [line(2, A, B), line(3, B, C), line(4, C, D), line(5, D, D)]
        self.leaves([*chain, never(A, D)], [2, 2], (line(5, D, D), [2]), (line(5, D, D), [-7]),
                    (check(0, 0, 1), [1, 5, 0]), (less(2, 1, D, D), [1]))


class Dropped(Done):
    def test_one_form(self):
        self.leaves([*FORMS, never(A, C)], [2, 1], (check(0), [1, 0, 0]), (check(1), [1, 4, 0]), (check(2), [1, 13, 0]),
                    (check(3), [-1]))

    def test_two_forms(self):
        self.leaves([*FORMS, never(A, B)], [6, 1], (check(0), [1, 0, 0]), (check(1), [1, 9, 0]), (check(2), [-1]))

    def test_one_of_two(self):
        self.leaves([line(9, A, both(B, C)), less(0, 2, A, B), never(A, C)], [2, 1], (check(1), [1, 9, 0]),
                    (check(2), [-1]))

    def test_forms_that_are_left(self):
        self.leaves([*FORMS, never(A, C), keep(A, B), keep(A, either(B, C))], [2, 1],
                    (check(0), [1, 0, 0, 1, 1]), (check(1), [0, 4, 0, 0, 1]), (check(2), [0, 13, 0, 0, 0]))

    def test_forms_behind_the_last(self):
        self.leaves([*FORMS, never(A, C)], [2, 1], (less(0, 50, both(A, B), C), [-5]),
                    (less(0, 50, A, either(C, B)), [2]), (check(2), [1, 54, 0]), (check(3), [1, 63, 0]),
                    (less(0, 1, A, ALL), [-7]))
        self.leaves([*FORMS, never(A, B)], [6, 1], (less(0, 50, A, either(C, B)), [1]), (less(0, 60, A, ALL), [2]),
                    (less(0, 70, A, ALL), [-7]), (check(1), [1, 50, 0]), (check(2), [1, 110, 0]),
                    (check(3), [1, 119, 0]))

    def test_of_each_axiom(self):
        calls = [*stairs((1, 10, 1000), (900, 500, 7)), never(A, D)]
        self.leaves(calls, [911, 2], (check(0, 0), [1, 0, 0]), (check(1, 0), [1, 1000, 0]), (check(0, 1), [1, 500, 0]),
                    (check(0, 2), [1, 507, 0]), (check(1, 2), [1, 1507, 0]), (check(2, 0), [-1]), (check(0, 3), [-1]))

    def test_some_forms_of_one_and_all_of_another(self):
        calls = [*FORMS, line(3, D, B), line(100, D, D), never(A, C), never(D, B)]
        self.leaves(calls, [5, 2], (check(1, 0), [1, 4, 0, 0]), (check(0, 1), [1, 100, 0, 0]), (check(3, 0), [-1]),
                    (check(2, 1), [1, 113, 0, 0]))


class Whole(Done):
    def test_where_nothing_is_unwanted(self):
        for wishes in ([], [keep(A, B)], [never(B, A)]):
            self.leaves([*FORMS, *wishes], [0, 1], (mend(), [0, 0]), (less(0, 1, A, either(B, C)), [-7]),
                        (check(0), [1, 0] + [wish[0] - 3 for wish in wishes]), (check(4), [-1]))

    def test_prices_stay(self):
        self.leaves(FORMS, [0, 1], (check(1), [1, 2]), (check(2), [1, 6]), (check(3), [1, 15]))

    def test_beside_one_that_is_weakened(self):
        calls = [line(8, D, B), less(0, 4, D, B), *[line(9, A, both(B, C)), less(1, 2, A, B)], never(A, C)]
        self.leaves(calls, [2, 2], (check(1, 0), [1, 4, 0]), (check(2, 0), [1, 12, 0]), (check(3, 0), [-1]),
                    (check(0, 1), [1, 9, 0]), (check(0, 2), [-1]))

    def test_without_axioms(self):
        self.leaves([], [0, 0], (mend(), [0]), (line(1, A, B), [0]))
        self.leaves([never(A, B), keep(A, A)], [0, 0], (check(), [1, 0, 0, 1]))


class Afterwards(Done):
    def test_mend_answers_nothing_to_do(self):
        self.leaves([*FORMS, never(A, C)], [2, 1], (mend(), [0, 0]), (least(), [1, 0, 0]), (done(), [0, 1]))
        self.leaves([*stairs((1, 2, 3), (4, 5, 6)), never(A, D)], [6, 1], (mend(), [0, 0]), (least(), [1, 0, 0]))
        self.leaves([*stairs((4, 5, 6), (1, 2, 4)), never(A, D)], [7, 1], (mend(), [0, 0]), (done(), [0, 1]))
        self.leaves([line(1, A, B), line(1, B, C), line(1, C, D), never(A, D)], [1, 2], (mend(), [0, 0, 0]))

    def test_first_of_equal_price(self):
        self.leaves([line(3, A, B), line(3, B, C), keep(A, B), never(A, C)], [3, 1], (check(0), [1, 0, 0, 1]))
        self.leaves([line(3, A, B), line(3, B, C), never(A, C)], [3, 1], (less(0, 1, A, B), [1]))

    def test_wishes_stay(self):
        calls = [line(3, A, B), line(3, B, C), never(A, C), never(B, A), keep(A, B), keep(A, A)]
        self.leaves(calls, [3, 1], (check(0), [1, 0, 0, 0, 1, 1]), (check(1), [0, 3, 0, 0, 0, 1]),
                    (never(A, A), [-7]), (keep(A, A), [-7]))
        self.leaves([*FORMS, never(A, C), keep(A, B)], [2, 1], (never(A, B), [1]), (keep(A, A), [1]), (mend(), [-6]))

    def test_new_axioms_bring_it_back(self):
        calls = [line(3, A, B), line(4, B, C), never(A, C)]
        self.leaves(calls, [3, 1], (line(2, A, B), [1]), (mend(), [2, 0, 1]), (check(0, 0), [0, 0, 1]),
                    (done(), [2, 1]), (check(0), [1, 0, 0]))

    def test_twice_with_another_wish_between(self):
        self.leaves([*FORMS, never(A, C)], [2, 1], (never(A, either(B, C)), [1]), (mend(), [13, 2]), (done(), [13, 0]))
        self.leaves([*FORMS, never(A, C)], [2, 1], (never(A, B), [1]), (mend(), [4, 1]), (done(), [4, 1]),
                    (check(1), [1, 9, 0, 0]))

    def test_begins_removes_what_is_left(self):
        self.leaves([*FORMS, never(A, C)], [2, 1], ([0], [0]), (check(), [1, 0]), (check(0), [-1]), (done(), [0, 0]))


class Room(Done):
    """The room that dropped forms and atoms took is free again."""

    FIVE = both(both(A, B), both(both(C, D), some(0, ALL)))
    SIXTH = some(1, ALL)

    def test_atoms_of_a_deleted_axiom(self):
        calls = [line(1, ALL, self.FIVE), never(ALL, A), keep(self.SIXTH, self.SIXTH)]
        self.assertEqual(replies(*calls)[-1], [-7])
        self.leaves(calls, [1, 0], (keep(self.SIXTH, self.SIXTH), [0]), (line(1, both(B, C), D), [0]),
                    (never(some(0, ALL), A), [-7]))

    def test_atoms_of_a_dropped_form(self):
        calls = [line(1, ALL, self.FIVE), less(0, 1, both(A, B), B), never(ALL, A), keep(self.SIXTH, A)]
        self.assertEqual(replies(*calls)[-1], [-7])
        self.leaves(calls, [1, 1], (keep(self.SIXTH, some(0, NONE)), [0]), (never(A, D), [1]), (line(1, C, C), [-7]),
                    (less(0, 1, A, ALL), [1]))

    def test_atoms_that_others_have_stay(self):
        calls = [line(1, ALL, self.FIVE), line(1, B, both(C, D)), never(ALL, A), keep(some(0, ALL), A)]
        self.leaves(calls[:3], [1, 1], (keep(self.SIXTH, ALL), [0]), (keep(some(0, ALL), A), [-7]))

    def test_forms(self):
        calls = [*FORMS, less(0, 1, A, ALL), never(A, C)]
        self.leaves(calls, [2, 1], (less(0, 1, A, ALL), [2]), (less(0, 1, A, ALL), [-7]))

    def test_wishes_take_room_as_before(self):
        calls = [line(1, ALL, A), never(ALL, A), keep(both(B, C), either(B, both(D, some(0, ALL))))]
        self.leaves(calls, [1, 0], (line(1, self.SIXTH, A), [-7]), (line(1, D, A), [0]))


class Refused(Done):
    def test_it_changes_nothing(self):
        calls = [*FORMS, line(7, B, C), less(1, 5, both(A, B), C), never(A, C), keep(A, both(B, C))]
        for before in ([], [done()], [done(), done(), mend()]):
            told = replies(*calls, *before, check(0, 0), check(1, 1), check(3, 2), check(4, 0), check(0, 3),
                           less(0, 1, A, ALL), less(1, 1, A, ALL), less(2, 1, A, ALL), line(1, A, A), keep(A, A),
                           never(A, B), check(0, 2, 1))
            self.assertEqual(told[7:7 + len(before)], [[-6]] * len(before))
            self.assertEqual(told[7 + len(before):], [
                [0, 0, 1, 1], [0, 7, 1, 1], [0, 27, 0, 0], [-1], [-1], [-7], [2], [-2], [2], [1], [1],
                [0, 7, 1, 1, 1, 1],
            ])


if __name__ == "__main__":
    unittest.main()
