"""-7: too many axioms, forms, wishes or atoms."""

import unittest

from tests.writing import A, ALL, B, C, D, NONE, both, either, keep, less, line, never, only, results, some, without

FOUR = both(both(A, B), both(C, D))
SOME_ALL = some(0, ALL)


class Counts(unittest.TestCase):
    def test_fourth_axiom(self):
        self.assertEqual(results(*[line(1, A, B)] * 5), [0, 1, 2, -7, -7])

    def test_fourth_form(self):
        self.assertEqual(results(line(1, A, B), *[less(0, 1, A, B)] * 4), [0, 1, 2, -7, -7])

    def test_forms_are_counted_axiom_by_axiom(self):
        calls = [line(1, A, B)] * 3 + [less(index, 1, A, B) for index in (0, 0, 0, 1, 1, 1, 2, 2, 2)]
        self.assertEqual(results(*calls), [0, 1, 2] + [1, 2, -7] * 3)

    def test_third_unwanted(self):
        self.assertEqual(results(*[never(A, B)] * 4), [0, 1, -7, -7])

    def test_third_wanted(self):
        self.assertEqual(results(*[keep(A, B)] * 4), [0, 1, -7, -7])

    def test_sorts_of_wishes_are_counted_apart(self):
        calls = [never(A, B), never(A, B), keep(A, B), keep(A, B), never(A, B), keep(A, B)]
        self.assertEqual(results(*calls), [0, 1, 0, 1, -7, -7])

    def test_everything_at_once(self):
        calls = [line(1, A, B), less(0, 1, A, B), less(0, 1, A, B)] + [line(1, A, B)] * 2
        calls += [never(A, B), never(A, B), keep(A, B), keep(A, B)]
        self.assertEqual(results(*calls), [0, 1, 2, 1, 2, 0, 1, 0, 1])


class Atoms(unittest.TestCase):
    def each_call(self, five, six):
        """Five atoms in one call are taken, six are not."""
        for call in (lambda *pair: line(1, *pair), never, keep):
            self.assertEqual(results(call(*five)), [0])
            self.assertEqual(results(call(*six)), [-7])
        self.assertEqual(results(line(1, ALL, NONE), less(0, 1, *five)), [0, 1])
        self.assertEqual(results(line(1, ALL, NONE), less(0, 1, *six)), [0, -7])

    def test_in_one_concept(self):
        self.each_call((both(FOUR, SOME_ALL), ALL), (both(FOUR, both(SOME_ALL, some(1, ALL))), ALL))

    def test_in_both_concepts(self):
        self.each_call((FOUR, SOME_ALL), (FOUR, either(SOME_ALL, only(0, ALL))))

    def test_in_the_second_concept(self):
        self.each_call((ALL, without(both(FOUR, SOME_ALL))), (ALL, both(both(FOUR, only(1, ALL)), SOME_ALL)))

    def test_equal_ones_are_counted_once(self):
        five = both(both(FOUR, FOUR), SOME_ALL)
        self.each_call((five, both(SOME_ALL, FOUR)), (five, both(SOME_ALL, some(0, NONE))))

    def test_inside_other_concepts(self):
        nested = some(0, only(1, some(0, both(A, B))))
        self.each_call((nested, both(A, B)), (nested, C))
        shared = both(some(0, some(1, A)), some(1, A))
        self.each_call((shared, both(B, C)), (shared, both(B, both(C, D))))

    def test_five_inside_one_another(self):
        nested = ALL
        for turn in range(5):
            nested = some(0, nested)
        self.each_call((nested, ALL), (some(0, nested), ALL))
        self.each_call((nested, nested[2:]), (nested, only(0, ALL)))

    def test_what_is_no_atom_takes_no_room(self):
        five = both(FOUR, SOME_ALL)
        self.each_call((without(five), either(either(ALL, NONE), without(without(ALL)))), (five, some(0, NONE)))

    def test_role_and_sign_make_atoms_different(self):
        self.each_call((both(A, both(B, C)), both(some(0, A), some(1, A))),
                       (both(A, both(B, C)), both(some(0, A), both(some(1, A), only(0, A)))))

    def test_only_what_is_written_alike_is_equal(self):
        left, right = some(0, both(A, B)), some(0, both(B, A))
        self.each_call((both(left, right), C), (both(left, right), both(C, D)))
        self.each_call((only(0, without(A)), both(some(0, A), both(B, C))),
                       (only(0, without(A)), both(some(0, A), FOUR)))

    def test_without_is_no_part_of_the_atom(self):
        self.each_call((without(SOME_ALL), both(SOME_ALL, FOUR)), (without(SOME_ALL), both(some(1, ALL), FOUR)))


class AtomsTogether(unittest.TestCase):
    """Forms and wishes of all sorts are counted together with the new ones."""

    def taken_by_each(self, concept):
        return {
            "line": [line(1, concept, ALL)],
            "less": [line(1, ALL, NONE), less(0, 1, concept, ALL)],
            "less twice": [line(1, ALL, NONE), less(0, 1, ALL, concept), less(0, 1, ALL, either(concept, ALL))],
            "never": [never(ALL, concept)],
            "keep": [keep(concept, concept)],
            "second never": [never(ALL, ALL), never(concept, ALL)],
            "second keep": [keep(ALL, ALL), keep(ALL, concept)],
            "second line": [line(1, ALL, ALL), line(1, ALL, concept)],
        }

    def added_by_each(self, concept):
        return {
            "line": [line(1, ALL, concept)],
            "less": [line(1, NONE, NONE), less(0, 1, NONE, concept)],
            "never": [never(concept, ALL)],
            "keep": [keep(ALL, concept)],
        }

    def test_four_and_one_and_one_more(self):
        for name, before in self.taken_by_each(FOUR).items():
            for call in ("line", "never", "keep"):
                if name == "second " + call != "second line":
                    continue
                with self.subTest(before=name, call=call):
                    calls = before + self.added_by_each(SOME_ALL)[call]
                    self.assertGreaterEqual(min(results(*calls)), 0)
                    calls = before + self.added_by_each(both(SOME_ALL, only(0, ALL)))[call]
                    self.assertEqual(results(*calls)[-1], -7)

    def test_four_and_less(self):
        for before in (never(ALL, FOUR), keep(FOUR, ALL), line(1, FOUR, ALL)):
            for extra, answer in ((ALL, 1), (A, 1), (SOME_ALL, 1), (both(SOME_ALL, some(1, ALL)), -7)):
                calls = [line(1, NONE, NONE), before, less(0, 1, NONE, extra)]
                self.assertEqual(results(*calls)[-1], answer)

    def test_one_each(self):
        calls = [line(1, A, ALL), less(0, 1, ALL, either(B, ALL)), never(C, ALL), keep(ALL, D), line(1, ALL, SOME_ALL)]
        self.assertEqual(results(*calls), [0, 1, 0, 0, 1])
        sixth = some(1, ALL)
        six = [never(ALL, sixth), keep(sixth, A), line(1, ALL, sixth), less(1, 1, ALL, sixth)]
        self.assertEqual(results(*calls, *six), [0, 1, 0, 0, 1] + [-7] * 4)

    def test_full_but_for_equal_ones(self):
        calls = [line(1, both(FOUR, SOME_ALL), ALL), never(SOME_ALL, A), keep(B, SOME_ALL), line(1, FOUR, SOME_ALL)]
        calls += [less(0, 1, both(FOUR, SOME_ALL), without(NONE))]
        self.assertEqual(results(*calls), [0, 0, 0, 1, 1])


if __name__ == "__main__":
    unittest.main()
