"""-5: whether the first concept is subsumed by the second one with the last form of the axiom alone."""

import itertools
import unittest

from tests.writing import A, ALL, B, C, NONE, both, either, keep, less, line, never, only, results, some, without
from weakenings.concepts import two_concepts
from weakenings.patterns import is_subsumed

NO_AXIOM = (ALL, ALL)


class Subsumption(unittest.TestCase):
    def holds(self, form, *pairs):
        for pair in pairs:
            with self.subTest(form=form, pair=pair):
                self.assertEqual(results(line(1, *form), less(0, 1, *pair)), [0, 1])

    def fails(self, form, *pairs):
        for pair in pairs:
            with self.subTest(form=form, pair=pair):
                self.assertEqual(results(line(1, *form), less(0, 1, *pair)), [0, -5])


class WithoutAxiom(Subsumption):
    """The form holds in every model, so the concepts' own meaning decides."""

    def test_everything_and_nothing(self):
        self.holds(NO_AXIOM, (ALL, ALL), (NONE, NONE), (NONE, ALL), (A, ALL), (NONE, A))
        self.fails(NO_AXIOM, (ALL, NONE), (ALL, A), (A, NONE))

    def test_names(self):
        self.holds(NO_AXIOM, (A, A), ([2, 3], [2, 3]))
        self.fails(NO_AXIOM, (A, B), (B, A), ([2, 3], [2, 2]), (A, [2, 3]))

    def test_both(self):
        self.holds(NO_AXIOM, (both(A, B), A), (both(A, B), B), (both(A, B), both(B, A)), (A, both(A, ALL)))
        self.holds(NO_AXIOM, (both(A, NONE), NONE))
        self.fails(NO_AXIOM, (A, both(A, B)), (B, both(A, B)), (both(A, B), C))

    def test_either(self):
        self.holds(NO_AXIOM, (A, either(A, B)), (B, either(A, B)), (either(A, B), either(B, A)), (either(A, NONE), A))
        self.holds(NO_AXIOM, (both(A, either(B, C)), either(both(A, B), both(A, C))))
        self.fails(NO_AXIOM, (either(A, B), A), (either(A, B), B), (either(A, B), both(A, B)))

    def test_without(self):
        self.holds(NO_AXIOM, (A, without(without(A))), (without(without(A)), A), (ALL, either(A, without(A))))
        self.holds(NO_AXIOM, (both(A, without(A)), NONE), (without(ALL), NONE), (ALL, without(NONE)))
        self.holds(NO_AXIOM, (without(either(A, B)), both(without(A), without(B))))
        self.fails(NO_AXIOM, (A, without(A)), (without(A), A), (without(both(A, B)), without(A)))

    def test_some(self):
        self.holds(NO_AXIOM, (some(0, both(A, B)), some(0, A)), (some(0, A), some(0, either(A, B))))
        self.holds(NO_AXIOM, (some(0, either(A, B)), either(some(0, A), some(0, B))), (some(1, NONE), NONE))
        self.holds(NO_AXIOM, (some(0, A), some(0, ALL)), (some(0, some(1, A)), some(0, some(1, ALL))))
        self.fails(NO_AXIOM, (some(0, A), some(0, both(A, B))), (some(0, A), A), (A, some(0, A)))
        self.fails(NO_AXIOM, (both(some(0, A), some(0, B)), some(0, both(A, B))), (ALL, some(0, ALL)))
        self.fails(NO_AXIOM, (some(0, A), NONE), (some(0, some(0, A)), some(0, A)), (some(0, A), some(0, some(0, A))))

    def test_only(self):
        self.holds(NO_AXIOM, (only(0, both(A, B)), only(0, A)), (only(0, A), only(0, either(A, B))))
        self.holds(NO_AXIOM, (ALL, only(0, ALL)))
        self.holds(NO_AXIOM, (both(only(1, A), only(1, B)), only(1, both(A, B))), (only(0, NONE), only(0, A)))
        self.fails(NO_AXIOM, (only(0, A), only(0, both(A, B))), (only(0, A), A), (A, only(0, A)), (ALL, only(0, NONE)))
        self.fails(NO_AXIOM, (only(0, either(A, B)), either(only(0, A), only(0, B))), (only(0, NONE), NONE))

    def test_only_holds_where_none_is_related(self):
        self.fails(NO_AXIOM, (only(0, A), some(0, A)), (only(0, A), some(0, ALL)))
        self.holds(NO_AXIOM, (both(only(0, A), some(0, ALL)), some(0, A)), (without(some(0, ALL)), only(0, A)))

    def test_some_and_only(self):
        self.holds(NO_AXIOM, (only(0, A), without(some(0, without(A)))), (without(some(0, without(A))), only(0, A)))
        self.holds(NO_AXIOM, (some(1, A), without(only(1, without(A)))), (without(only(1, without(A))), some(1, A)))
        self.holds(NO_AXIOM, (both(only(0, A), some(0, B)), some(0, both(A, B))))
        self.holds(NO_AXIOM, (both(only(0, A), some(0, without(A))), NONE))
        self.fails(NO_AXIOM, (both(only(0, A), some(0, B)), only(0, B)), (some(0, A), only(0, A)))

    def test_roles_are_apart(self):
        self.fails(NO_AXIOM, (some(0, A), some(1, A)), (some(1, A), some(0, A)), (only(0, A), only(1, A)))
        self.fails(NO_AXIOM, (both(only(0, A), some(1, B)), some(1, both(A, B))), (only(1, A), only(0, A)))
        self.fails(NO_AXIOM, (both(only(0, A), some(1, without(A))), NONE))

    def test_direction_of_roles(self):
        self.fails(NO_AXIOM, (A, only(0, some(0, A))), (some(0, only(0, A)), A))

    def test_nested(self):
        self.holds(NO_AXIOM, (some(0, only(1, NONE)), some(0, only(1, A))))
        self.holds(NO_AXIOM, (both(some(0, A), only(0, some(1, ALL))), some(0, some(1, ALL))))
        self.holds(NO_AXIOM, (both(only(0, only(0, A)), some(0, some(0, without(A)))), NONE))
        self.fails(NO_AXIOM, (some(0, only(1, A)), some(0, only(0, A))), (only(0, some(1, A)), some(0, some(1, A))))


class WithForm(Subsumption):
    def test_names(self):
        form = (A, B)
        self.holds(form, (A, B), (both(A, C), B), (A, either(B, C)))
        self.holds(form, (without(B), without(A)), (both(A, without(B)), NONE))
        self.fails(form, (B, A), (C, B), (without(A), without(B)), (A, C), (ALL, B), (A, NONE))

    def test_below_roles(self):
        form = (A, B)
        self.holds(form, (some(0, A), some(0, B)), (only(1, A), only(1, B)), (some(0, both(A, C)), some(0, B)))
        self.holds(form, (only(0, without(B)), only(0, without(A))), (both(some(0, A), only(0, without(B))), NONE))
        self.fails(form, (some(0, B), some(0, A)), (only(0, B), only(0, A)), (some(0, A), some(1, B)))

    def test_both_and_either(self):
        self.holds((A, both(B, C)), (A, B), (A, C), (some(0, A), some(0, C)))
        self.fails((A, both(B, C)), (B, C), (both(B, C), A))
        self.holds((A, either(B, C)), (both(A, without(B)), C))
        self.fails((A, either(B, C)), (A, B), (A, C))
        self.holds((either(A, B), C), (A, C), (B, C))
        self.fails((both(A, B), C), (A, C), (B, C))

    def test_without(self):
        self.holds((A, without(B)), (B, without(A)), (both(A, B), NONE))
        self.fails((A, without(B)), (without(B), A), (ALL, without(A)))

    def test_nothing_has_a_name(self):
        self.holds((A, NONE), (A, B), (ALL, without(A)), (some(0, some(1, A)), NONE), (ALL, only(0, without(A))))
        self.fails((A, NONE), (B, A), (ALL, A), (ALL, NONE), (only(0, A), NONE))

    def test_form_from_nothing_or_to_everything(self):
        for form in ((NONE, A), (A, ALL), (NONE, NONE), (A, A)):
            self.fails(form, (ALL, A), (A, B), (ALL, NONE))
            self.holds(form, (A, A))

    def test_everything_has_a_name(self):
        self.holds((ALL, A), (ALL, A), (B, A), (some(0, ALL), some(0, A)), (ALL, only(0, A)), (without(A), NONE))
        self.fails((ALL, A), (ALL, B), (ALL, some(0, A)), (A, NONE))


class WithRelatedOnes(Subsumption):
    """Forms that force related elements, or say what these are."""

    def test_each_is_related_to_some(self):
        form = (ALL, some(0, A))
        self.holds(form, (ALL, some(0, A)), (ALL, some(0, ALL)), (ALL, some(0, some(0, A))), (only(0, NONE), NONE))
        self.holds(form, (only(0, B), some(0, B)), (only(0, B), some(0, both(A, B))))
        self.holds(form, (ALL, some(0, both(A, some(0, A)))))
        self.holds(form, (some(1, ALL), some(1, some(0, A))), (ALL, only(1, some(0, A))))
        self.fails(form, (ALL, A), (ALL, only(0, A)), (ALL, some(1, A)), (B, some(0, B)), (ALL, some(0, both(A, B))))

    def test_each_is_related_to_these_only(self):
        form = (ALL, only(0, A))
        self.holds(form, (ALL, only(0, A)), (some(0, ALL), some(0, A)))
        self.holds(form, (ALL, only(0, only(0, A))), (some(0, without(A)), NONE))
        self.holds(form, (some(0, B), some(0, both(A, B))), (ALL, only(1, only(0, A))))
        self.fails(form, (ALL, A), (ALL, some(0, A)), (ALL, only(1, A)), (some(1, ALL), some(1, A)), (without(A), NONE))

    def test_from_a_name(self):
        form = (A, some(0, A))
        self.holds(form, (A, some(0, some(0, A))), (A, some(0, some(0, some(0, A)))))
        self.holds(form, (both(A, only(0, without(A))), NONE))
        self.holds(form, (both(A, only(0, B)), some(0, both(A, B))))
        self.fails(form, (ALL, some(0, A)), (some(0, A), A), (A, only(0, A)), (A, NONE), (A, some(1, A)))

    def test_only_from_a_name(self):
        form = (A, only(1, A))
        self.holds(form, (A, only(1, only(1, A))), (both(A, some(1, without(A))), NONE))
        self.holds(form, (both(A, some(1, B)), some(1, both(A, B))))
        self.fails(form, (only(1, A), A), (A, some(1, A)), (A, only(0, A)))

    def test_towards_a_name(self):
        self.holds((some(0, A), B), (some(0, both(A, C)), B), (without(B), only(0, without(A))))
        self.holds((some(0, A), B), (some(0, some(0, A)), some(0, B)))
        self.fails((some(0, A), B), (A, B), (some(0, some(0, A)), B), (B, some(0, A)), (some(1, A), B))
        self.holds((some(0, A), A), (some(0, some(0, A)), A), (without(A), only(0, without(A))))
        self.holds((only(0, A), B), (only(0, NONE), B), (without(B), some(0, without(A))), (without(B), some(0, ALL)))
        self.fails((only(0, A), B), (A, B), (some(0, A), B), (ALL, B))

    def test_related_ones_that_cannot_be(self):
        """An element is ruled out as the one that it needs is, and that one as the next."""
        steps = both(both(either(without(A), some(0, B)), either(without(B), some(0, C))), without(C))
        self.holds((ALL, steps), (A, NONE), (B, NONE), (C, NONE), (either(A, B), C), (ALL, without(A)))
        self.holds((ALL, steps), (some(0, B), some(0, C)), (some(0, C), A))
        self.fails((ALL, steps), (ALL, NONE), (ALL, A), (without(A), NONE), (ALL, some(0, B)))
        open_end = both(either(without(A), some(0, B)), either(without(B), some(0, C)))
        self.fails((ALL, open_end), (A, NONE), (B, NONE), (C, NONE), (A, B), (A, some(0, C)))

    def test_both_roles(self):
        form = (ALL, both(some(0, A), only(1, without(A))))
        self.holds(form, (ALL, some(0, A)), (ALL, only(1, without(A))), (some(1, ALL), some(1, without(A))))
        self.holds(form, (some(1, A), NONE), (ALL, some(0, both(A, only(1, without(A))))))
        self.fails(form, (ALL, NONE), (some(0, without(A)), NONE), (ALL, some(1, without(A))), (some(1, ALL), NONE))

    def test_nested_in_the_form(self):
        form = (ALL, some(0, only(0, A)))
        self.holds(form, (ALL, some(0, some(0, A))), (ALL, some(0, only(0, A))))
        self.fails(form, (ALL, some(0, A)), (ALL, only(0, A)), (ALL, some(0, only(1, A))), (ALL, only(0, only(0, A))))


class WithoutModel(Subsumption):
    """With a form that holds in no nonempty model, everything is subsumed by everything."""

    FORMS = (
        (ALL, NONE),
        (ALL, both(A, without(A))),
        (either(A, without(A)), NONE),
        (ALL, some(0, NONE)),
        (only(1, ALL), NONE),
        (ALL, both(some(0, A), only(0, without(A)))),
        (ALL, both(some(1, A), without(A))),
        (ALL, both(some(0, without(A)), A)),
        (ALL, both(some(0, A), only(0, only(0, without(A))))),
    )

    def test_everything_is_subsumed(self):
        for form in self.FORMS:
            self.holds(form, (ALL, NONE), (ALL, A), (A, without(A)))
            self.holds(form, (ALL, B), (either(A, B), NONE), (ALL, some(0, NONE)))

    def test_near_to_these(self):
        self.fails((ALL, only(0, NONE)), (ALL, NONE))
        self.fails((ALL, both(some(0, A), only(1, without(A)))), (ALL, NONE))
        self.fails((ALL, both(only(1, A), without(A))), (ALL, NONE))
        self.fails((ALL, both(some(0, A), only(0, only(1, without(A))))), (ALL, NONE))


class LastFormAlone(unittest.TestCase):
    def test_forms_before_the_last_do_not_count(self):
        forms = [line(1, A, both(B, C)), less(0, 1, A, B)]
        self.assertEqual(results(*forms, less(0, 1, A, C)), [0, 1, -5])
        self.assertEqual(results(*forms, less(0, 1, A, both(B, C))), [0, 1, -5])
        self.assertEqual(results(forms[0], less(0, 1, A, C)), [0, 1])

    def test_refused_forms_do_not_count(self):
        self.assertEqual(results(line(1, A, A), less(0, 1, A, B), less(0, 1, A, B)), [0, -5, -5])

    def test_other_axioms_do_not_count(self):
        calls = [line(1, A, B), line(1, B, C), line(1, ALL, ALL), less(2, 1, A, B), less(0, 1, A, C), less(1, 1, A, C)]
        self.assertEqual(results(*calls), [0, 1, 2, -5, -5, -5])
        calls = [line(1, ALL, NONE), line(1, A, A), less(1, 1, A, B), less(0, 1, A, B)]
        self.assertEqual(results(*calls), [0, 1, -5, 1])

    def test_wishes_do_not_count(self):
        calls = [keep(A, B), never(B, A), line(1, C, C), less(0, 1, A, B), less(0, 1, ALL, NONE)]
        self.assertEqual(results(*calls), [0, 0, 0, -5, -5])

    def test_form_may_say_the_same(self):
        self.assertEqual(results(line(1, A, B), less(0, 1, without(B), without(A)), less(0, 1, A, B)), [0, 1, 2])


class SmallModels(unittest.TestCase):
    """No subsumption may hold that a model of one or two elements, built by hand here, speaks against."""

    def extension(self, numbers, model):
        """The elements that have the concept with which the numbers begin, and the numbers behind it."""
        everyone, names, related = model
        sign = numbers[0]
        if sign in (0, 1):
            return (everyone if sign == 0 else frozenset()), numbers[1:]
        if sign == 2:
            return names[numbers[1]], numbers[2:]
        if sign in (6, 7):
            inner, rest = self.extension(numbers[2:], model)
            reached = {one: {to for start, to in related[numbers[1]] if start == one} for one in everyone}
            if sign == 6:
                return frozenset(one for one in everyone if reached[one] & inner), rest
            return frozenset(one for one in everyone if reached[one] <= inner), rest
        first, rest = self.extension(numbers[1:], model)
        if sign == 5:
            return everyone - first, rest
        second, rest = self.extension(rest, model)
        return (first & second if sign == 3 else first | second), rest

    def holds(self, pair, model):
        first, rest = self.extension(pair[0] + pair[1], model)
        return first <= self.extension(rest, model)[0]

    def models(self):
        for size in (1, 2):
            everyone = frozenset(range(size))
            groups = [frozenset(one) for count in range(size + 1) for one in itertools.combinations(everyone, count)]
            pairs = list(itertools.product(everyone, everyone))
            relations = [one for count in range(len(pairs) + 1) for one in itertools.combinations(pairs, count)]
            for names in itertools.product(groups, groups):
                for relation in relations:
                    yield everyone, names, (relation, ())

    def test_against_small_models(self):
        concepts = [ALL, NONE, A, B, without(A), both(A, B), either(A, B), some(0, A), only(0, A), some(0, without(B))]
        concepts += [only(0, NONE), some(0, some(0, A)), some(1, A), only(1, NONE)]
        pairs = list(itertools.product(concepts, concepts))
        models = list(self.models())
        against = [sum(1 << bit for bit, model in enumerate(models) if not self.holds(pair, model)) for pair in pairs]
        refused = 0
        for form, form_against in list(zip(pairs, against))[::3]:
            axiom = two_concepts(form[0] + form[1])
            for pair, pair_against in list(zip(pairs, against))[::7]:
                if pair_against & ~form_against:
                    refused += 1
                    self.assertFalse(is_subsumed(two_concepts(pair[0] + pair[1]), [axiom]), (form, pair))
        self.assertGreater(refused, 500)


if __name__ == "__main__":
    unittest.main()
