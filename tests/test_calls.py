"""begins, line, less, never, keep: ordinary calls, the lengths ahead of the answers, several in one list."""

import unittest

from tests.writing import A, ALL, B, C, D, NONE, begins, both, either, keep, less, line, never, results
from weakenings.service import answers
from weakenings.store import Store


class Written(unittest.TestCase):
    """Lists of calls and answers number by number, as the interface writes them."""

    def test_begins(self):
        self.assertEqual(answers([0]), [1, 0])

    def test_line(self):
        self.assertEqual(answers([1, 9, 4, 2, 0, 2, 1]), [1, 0])

    def test_less(self):
        self.assertEqual(answers([1, 9, 4, 2, 0, 2, 1, 2, 0, 3, 3, 2, 0, 0]), [1, 0, 1, 1])

    def test_never(self):
        self.assertEqual(answers([3, 4, 2, 0, 2, 3]), [1, 0])

    def test_keep(self):
        self.assertEqual(answers([4, 4, 2, 0, 2, 3]), [1, 0])

    def test_refusals_are_one_number(self):
        self.assertEqual(answers([1, 9, 0]), [1, -1])
        self.assertEqual(answers([2, 0, 9, 2, 0, 0]), [1, -2])
        self.assertEqual(answers([1, 9, 2, 0, 0, 2, 0, 9, 2, 0, 1]), [1, 0, 1, -5])
        self.assertEqual(answers([3, 2, 0, 0] * 3), [1, 0, 1, 1, 1, -7])

    def test_empty_list_is_followed_by_the_next_call(self):
        self.assertEqual(answers([3, 0, 4, 0, 1, 5, 0, 2, 0, 5, 0, 0]), [1, -1] * 4 + [1, 0])

    def test_numbers_of_a_list_are_no_calls(self):
        self.assertEqual(answers([3, 3, 9, 9, 9, 0, 4, 2, 1, 1]), [1, -1, 1, 0, 1, 0])

    def test_sixty_calls(self):
        calls = [call for turn in range(20) for call in (line(1, A, B), keep(A, B), begins())]
        self.assertEqual(results(*calls), [0] * 60)


class InTheExamples(unittest.TestCase):
    """The calls of the document's examples, in their order."""

    def test_examples(self):
        calls = [
            (line(9, A, both(B, C)), 0),
            (less(0, 2, A, C), 1),
            (less(0, 4, A, either(B, C)), 2),
            (line(5, B, D), 1),
            (never(A, D), 0),
            (keep(A, B), 0),
            (less(1, 1, D, B), -5),
            (keep(A, C), 1),
            (never(B, D), 1),
            (less(9, 1, ALL, ALL), -2),
            (line(0, ALL, ALL), -1),
        ]
        self.assertEqual(results(*[call for call, answer in calls]), [answer for call, answer in calls])

    def test_example_in_numbers(self):
        calls = [1, 9, 7, 2, 0, 3, 2, 1, 2, 2, 2, 0, 2, 4, 2, 0, 2, 2, 2, 0, 4, 7, 2, 0, 4, 2, 1, 2, 2]
        calls += [1, 5, 4, 2, 1, 2, 3, 3, 4, 2, 0, 2, 3]
        self.assertEqual(answers(calls), [1, 0, 1, 1, 1, 2, 1, 1, 1, 0])


class Numbering(unittest.TestCase):
    def test_axioms_are_numbered_in_order(self):
        self.assertEqual(results(line(1, A, B), line(1, B, A), line(1, A, A)), [0, 1, 2])

    def test_forms_are_numbered_axiom_by_axiom(self):
        calls = [line(1, A, B), line(1, B, A), less(1, 1, B, A), less(0, 1, A, B), less(1, 1, B, A), less(0, 1, A, B)]
        self.assertEqual(results(*calls), [0, 1, 1, 1, 2, 2])

    def test_less_speaks_of_the_axiom_with_its_index(self):
        calls = [line(1, A, B), line(1, B, A), less(0, 1, A, B), less(1, 1, A, B), less(1, 1, B, A), less(0, 1, B, A)]
        self.assertEqual(results(*calls), [0, 1, 1, -5, 1, -5])

    def test_wishes_are_numbered_apart(self):
        self.assertEqual(results(never(A, B), keep(A, B), keep(B, A), never(B, A)), [0, 0, 1, 1])

    def test_equal_axioms_and_wishes_are_numbered_again(self):
        calls = [line(1, A, B), line(1, A, B), never(A, B), never(A, B), keep(A, B), keep(A, B)]
        self.assertEqual(results(*calls), [0, 1, 0, 1, 0, 1])

    def test_wishes_need_not_agree(self):
        self.assertEqual(results(never(ALL, ALL), keep(ALL, NONE), never(A, B), keep(A, B)), [0, 0, 1, 1])


class Begins(unittest.TestCase):
    MANY = both([6, 0, 0], both([6, 1, 0], both([7, 0, 0], [7, 1, 0])))

    def test_axioms_are_removed(self):
        full = [line(1, A, B)] * 3
        self.assertEqual(results(*full, begins(), *full, line(1, A, B)), [0, 1, 2, 0, 0, 1, 2, -7])

    def test_forms_are_removed(self):
        forms = [line(1, A, B), less(0, 1, A, B), less(0, 1, A, B)]
        self.assertEqual(results(*forms, begins(), less(0, 1, A, B), *forms), [0, 1, 2, 0, -2, 0, 1, 2])

    def test_wishes_are_removed(self):
        full = [never(A, B), never(A, B), keep(A, B), keep(A, B)]
        self.assertEqual(results(*full, begins(), *full), [0, 1, 0, 1, 0, 0, 1, 0, 1])

    def test_atoms_of_axioms_are_free_again(self):
        self.assertEqual(results(line(1, both(A, B), both(C, D)), begins(), keep(ALL, self.MANY)), [0, 0, 0])

    def test_atoms_of_wishes_are_free_again(self):
        for wish in (never, keep):
            calls = [wish(both(A, B), both(C, D)), line(1, self.MANY, ALL), begins(), line(1, self.MANY, ALL)]
            self.assertEqual(results(*calls), [0, -7, 0, 0])

    def test_twice_and_at_the_start(self):
        self.assertEqual(results(begins(), begins(), line(1, A, B), begins()), [0, 0, 0, 0])


class Kept(unittest.TestCase):
    """What later operations will ask for is there: forms, and a price for each step."""

    def test_forms_and_prices(self):
        store = Store()
        store.line(9, A + B)
        store.less(0, 2, A + either(B, C))
        store.less(0, 4, A + ALL)
        store.line(1000, C + C)
        first, second = store.axioms
        self.assertEqual(first.forms, [((2, 0), (2, 1)), ((2, 0), (4, 2, 1, 2, 2)), ((2, 0), (0,))])
        self.assertEqual(first.prices, [2, 4, 9])
        self.assertEqual(second.forms, [((2, 2), (2, 2))])
        self.assertEqual(second.prices, [1000])

    def test_wishes(self):
        store = Store()
        store.never(A + B)
        store.keep(B + C)
        self.assertEqual(store.unwanted, [((2, 0), (2, 1))])
        self.assertEqual(store.wanted, [((2, 1), (2, 2))])


if __name__ == "__main__":
    unittest.main()
