"""Points 1 to 7 of the document against a slow and plain reading of it, over drawn lists of calls.

The plain reading asks of each subsumption for an element that speaks against it, and builds that
element and those related to it one by one; what it finds is a model, which is gone through by the
document's table of concepts. Ways are all listed, and each is compared with each.
"""

import collections
import functools
import itertools
import random
import unittest

from tests.writing import ALL, begins, check, done, keep, least, less, line, mend, never, replies

HIGHEST = 4294967295


# Concepts: (0,), (1,), (2, name), (3, c, d), (4, c, d), (5, c), (6, role, c), (7, role, c).

def read(numbers):
    """The concept that begins here, or None, and the numbers behind it."""
    if not numbers or numbers[0] > 7:
        return None, numbers
    sign, rest = numbers[0], numbers[1:]
    parts = (sign,)
    if sign in (2, 6, 7):
        if not rest or rest[0] >= (4 if sign == 2 else 2):
            return None, rest
        parts, rest = parts + (rest[0],), rest[1:]
    for turn in range({3: 2, 4: 2, 5: 1, 6: 1, 7: 1}.get(sign, 0)):
        part, rest = read(rest)
        if part is None:
            return None, rest
        parts += (part,)
    return parts, rest


def read_two(numbers):
    first, rest = read(numbers)
    second, rest = read(rest) if first else (None, rest)
    return (first, second) if second and not rest else None


def atoms_in(concept):
    inside = set().union(*[atoms_in(part) for part in concept if isinstance(part, tuple)])
    return inside | {concept} if concept[0] in (2, 6, 7) else inside


def has(concept, element, model):
    """Whether the element has the concept, by the document's table."""
    sign = concept[0]
    if sign == 0:
        return True
    if sign == 1:
        return False
    if sign == 2:
        return concept[1] in model[element][0]
    if sign == 3:
        return has(concept[1], element, model) and has(concept[2], element, model)
    if sign == 4:
        return has(concept[1], element, model) or has(concept[2], element, model)
    if sign == 5:
        return not has(concept[1], element, model)
    reached = [has(concept[2], other, model) for role, other in model[element][1] if role == concept[1]]
    return any(reached) if sign == 6 else all(reached)


def turned(concept, meant=True):
    """The concept, or that of the elements that do not have it, with 5 ahead of names alone."""
    sign = concept[0]
    if sign == 5:
        return turned(concept[1], not meant)
    if sign == 2:
        return concept if meant else (5, concept)
    sign = sign if meant else {0: 1, 1: 0, 3: 4, 4: 3, 6: 7, 7: 6}[sign]
    return (sign,) + tuple(turned(part, meant) if isinstance(part, tuple) else part for part in concept[1:])


def filled(needs, label):
    """Each way in which an element can have all it needs beside the label, without contradiction."""
    if not needs:
        yield label
        return
    need, rest = needs[0], needs[1:]
    if need in label:
        yield from filled(rest, label)
    elif need != (1,) and turned(need, False) not in label:
        label = label | {need}
        if need[0] == 3:
            yield from filled(need[1:] + rest, label)
        elif need[0] == 4:
            yield from filled(need[1:2] + rest, label)
            yield from filled((turned(need[1], False), need[2]) + rest, label)
        else:
            yield from filled(rest, label)


class Builder:
    """Builds a model in which each element obeys the laws."""

    def __init__(self, axioms):
        self.laws = tuple((4, turned(first, False), turned(second)) for first, second in axioms)
        self.labels, self.related, self.impossible = [], [], set()

    def place(self, needs, above):
        """The number of a new element that has what it needs, or None; the ones above lead to it."""
        if needs in self.impossible:
            return None
        for label in filled(tuple(sorted(needs, key=repr)) + self.laws, frozenset()):
            number = len(self.labels)
            self.labels.append(label)
            self.related.append([])
            if all(self.relate(number, need, label, above + [number]) for need in label if need[0] == 6):
                return number
            del self.labels[number:], self.related[number:]
        self.impossible.add(needs)
        return None

    def relate(self, number, need, label, above):
        """Relates the element to one that it needs: one above that has all this, or a new one."""
        needs = frozenset([need[2]] + [law[2] for law in label if law[:2] == (7, need[1])])
        fit = [other for other in above if needs <= self.labels[other]]
        other = fit[0] if fit else self.place(needs, above)
        if other is not None:
            self.related[number].append((need[1], other))
        return other is not None

    def model(self):
        names = [{one[1] for one in label if one[0] == 2} for label in self.labels]
        return list(zip(names, self.related))


@functools.lru_cache(maxsize=None)
def subsumed(first, second, axioms):
    builder = Builder(axioms)
    if builder.place(frozenset([turned(first), turned(second, False)]), []) is None:
        return True
    model = builder.model()
    for left, right in axioms:
        if any(has(left, one, model) and not has(right, one, model) for one in range(len(model))):
            raise AssertionError(f"not a model of the axioms: {model}")
    if not has(first, 0, model) or has(second, 0, model):
        raise AssertionError(f"nothing against {first}, {second} in {model}")
    return False


class Plain:
    """The operations, one by one, as the document tells them; what they work on is never changed in place."""

    def __init__(self):
        self.axioms, self.wishes = (), {3: (), 4: ()}

    def too_many_atoms(self, pair):
        pairs = [form for forms, prices in self.axioms for form in forms] + [*self.wishes[3], *self.wishes[4], pair]
        return len(set().union(*[atoms_in(concept) for one in pairs for concept in one])) > 5

    def begins(self):
        self.__init__()
        return [0]

    def line(self, price, numbers):
        pair = read_two(numbers)
        if pair is None or not 1 <= price <= 1000:
            return [-1]
        if len(self.axioms) == 3 or self.too_many_atoms(pair):
            return [-7]
        self.axioms += (((pair,), (price,)),)
        return [len(self.axioms) - 1]

    def less(self, index, price, numbers):
        pair = read_two(numbers)
        if pair is None or not 1 <= price <= 1000:
            return [-1]
        if index >= len(self.axioms):
            return [-2]
        forms, prices = self.axioms[index]
        if len(forms) == 3 or self.too_many_atoms(pair):
            return [-7]
        if not subsumed(*pair, forms[-1:]):
            return [-5]
        weaker = (forms + (pair,), prices[:-1] + (price,) + prices[-1:])
        self.axioms = self.axioms[:index] + (weaker,) + self.axioms[index + 1:]
        return [len(forms)]

    def wish(self, sort, numbers):
        pair = read_two(numbers)
        if pair is None:
            return [-1]
        if len(self.wishes[sort]) == 2 or self.too_many_atoms(pair):
            return [-7]
        self.wishes = {**self.wishes, sort: self.wishes[sort] + (pair,)}
        return [len(self.wishes[sort]) - 1]

    def ways(self):
        return list(itertools.product(*[range(len(forms) + 1) for forms, prices in self.axioms]))

    def price(self, way):
        return sum(sum(prices[:level]) for level, (forms, prices) in zip(way, self.axioms))

    def held(self, way):
        left = tuple(forms[level] for level, (forms, prices) in zip(way, self.axioms) if level < len(forms))
        return [[subsumed(*pair, left) for pair in self.wishes[sort]] for sort in (3, 4)]

    def satisfying(self):
        return [way for way in self.ways() if self.satisfies(way)]

    def satisfies(self, way):
        unwanted, wanted = self.held(way)
        return True not in unwanted and False not in wanted

    def repair(self):
        return min(((self.price(way), way) for way in self.satisfying()), default=None)

    def mend(self):
        repair = self.repair()
        return [-6] if repair is None else [repair[0], *repair[1]]

    def least(self):
        ways = self.satisfying()
        minimal = [way for way in ways if [other for other in ways if not_above(other, way)] == [way]]
        return [len(minimal)] + [number for way in minimal for number in (self.price(way), *way)]

    def check(self, levels):
        if tuple(levels) not in self.ways():
            return [-1]
        unwanted, wanted = self.held(levels)
        return [int(self.satisfies(levels)), self.price(levels), *map(int, unwanted + wanted)]

    def done(self):
        repair = self.repair()
        if repair is None:
            return [-6]
        left = [(forms[level:], prices[level:]) for level, (forms, prices) in zip(repair[1], self.axioms)]
        self.axioms = tuple(axiom for axiom in left if axiom[0])
        return [repair[0], len(self.axioms)]

    def reply(self, call):
        number = call[0]
        if number in (3, 4):
            return self.wish(number, call[2:])
        arguments = {1: [call[1:2], call[3:]], 2: [call[1:3], call[4:]], 7: [[], call[2:]]}
        told = (self.begins, self.line, self.less, None, None, self.mend, self.least, self.check, self.done)[number]
        if number not in arguments:
            return told()
        numbers, listed = arguments[number]
        return told(*numbers, listed)


def plain_replies(calls):
    plain = Plain()
    return [plain.reply(call) for call in calls]


def not_above(way, other):
    return all(level <= bound for level, bound in zip(way, other))


def written(concept):
    """The concept's numbers."""
    return [number for part in concept for number in (written(part) if isinstance(part, tuple) else [part])]


class Draw:
    """Draws a list of calls over a few concepts that axioms, forms and wishes share."""

    def __init__(self, seed):
        self.chance = random.Random(seed)
        self.atoms = self.chance.sample([(2, name) for name in range(4)], self.chance.choice((2, 3, 3, 4)))
        for turn in range(self.chance.choice((0, 1, 2, 2, 5 - len(self.atoms), 6 - len(self.atoms)))):
            inside = self.chance.choice(self.atoms + [(0,), (1,)])
            self.atoms.append((self.chance.choice((6, 7)), self.chance.choice((0, 0, 1)), inside))
        self.shared = [self.concept(2) for turn in range(3)] + self.chance.sample(self.atoms, 2)
        self.plain, self.calls = Plain(), []

    def add(self, call):
        """Takes the call, but mostly not a wish that leaves no way."""
        axioms, wishes = self.plain.axioms, self.plain.wishes
        self.plain.reply(call)
        if wishes is not self.plain.wishes and self.plain.repair() is None and self.chance.random() < 0.8:
            self.plain.axioms, self.plain.wishes = axioms, wishes
        else:
            self.calls.append(call)

    def concept(self, depth):
        kind = self.chance.randrange(8 if depth else 4)
        if kind in (0, 1, 2, 3):
            return self.chance.choice(self.atoms) if kind else self.chance.choice(((0,), (1,), self.atoms[0]))
        if kind == 4:
            return (5, self.concept(depth - 1))
        return (self.chance.choice((3, 4)), self.concept(depth - 1), self.concept(depth - 1))

    def forms(self):
        return tuple(form for forms, prices in self.plain.axioms for form in forms)

    def pair(self):
        return self.chance.choice(self.shared), self.chance.choice(self.shared)

    def liked(self, draw, likes):
        """One of some drawn pairs, if possible one that is liked, and none that is too long."""
        pairs = [pair for pair in [draw() for turn in range(25)] if len(written(pair)) <= 30] or [((0,), (0,))]
        return self.chance.choice([pair for pair in pairs if likes(pair)] or pairs)

    def weaker(self, pair):
        """Mostly a pair that follows from this one."""
        (first, second), extra = pair, self.chance.choice(self.shared)
        return self.chance.choice([
            ((3, first, extra), second), (first, (4, second, extra)), ((5, second), (5, first)), self.pair(),
            ((3, first, extra), (3, second, extra)), ((4, first, extra), (4, second, extra)),
            (first, second[-1] if second[0] == 3 else second), (first[-1] if first[0] == 4 else first, second),
        ])

    def joined(self):
        """The begin of one form and the end of another one, or something near to a form."""
        if not self.forms() or self.chance.random() < 0.1:
            return self.pair()
        one, other = self.chance.choice(self.forms()), self.chance.choice(self.forms())
        return self.chance.choice([(one[0], other[1]), (one[0], other[1]), self.weaker(one)])

    def price(self):
        return self.chance.choice((1, 1, 2, 3, 3, 5, 8, 1000, self.chance.randint(1, 1000)))

    def chained(self):
        """Mostly a pair that goes on from an axiom that is there."""
        ends = [form[1] for form in self.forms()]
        return (self.chance.choice(ends), self.pair()[1]) if ends and self.chance.random() < 0.8 else self.pair()

    def line(self):
        pair = self.liked(self.chained, lambda pair: not subsumed(*pair, ()))
        return line(self.price(), *map(written, pair))

    def less(self):
        index = self.chance.randrange(len(self.plain.axioms) or 1)
        last = [forms[-1] for forms, prices in self.plain.axioms[index:index + 1]]
        pair = self.liked(lambda: self.weaker(last[0] if last else self.pair()),
                          lambda pair: last and not subsumed(*last[0], (pair,)))
        return less(index, self.price(), *map(written, pair))

    def wish(self):
        firsts = tuple(forms[0] for forms, prices in self.plain.axioms)
        sort = self.chance.choice((never, never, keep))
        alone = [(form,) for form in firsts] if sort == never and self.chance.random() < 0.8 else [()]
        pair = self.liked(self.joined, lambda pair: subsumed(*pair, firsts) and
                          not any(subsumed(*pair, one) for one in alone))
        return sort(*map(written, pair))

    def wrong(self):
        pair, one = [written(concept) for concept in self.pair()], written(self.chance.choice(self.shared))
        return self.chance.choice([
            line(self.chance.choice((0, 1001, HIGHEST)), *pair), less(3, 1, *pair), less(HIGHEST, 1, *pair),
            less(0, 0, *pair), never(one), keep(*pair, ALL), line(1), less(HIGHEST, 0, [2, 4], ALL),
            never([6, 0, 6, 1, 6, 0, 6, 1, 6, 0, 0], [7, 0, 0]), keep([5] * 30),
        ])

    def check(self):
        levels = [self.chance.randint(0, len(forms)) for forms, prices in self.plain.axioms]
        if self.chance.random() < 0.1:
            levels = self.chance.choice((levels + [0], levels[1:], [0] * 30, levels[1:] + [4], [HIGHEST]))
        return check(*levels)

    def setting(self):
        """Axioms, forms and wishes alone."""
        for turn in range(self.chance.choice((1, 2, 2, 3, 3, 3))):
            self.add(self.line())
        for draw in [self.less] * self.chance.randint(0, 6) + [self.wish] * self.chance.randint(1, 5):
            self.add(draw())
        return self.calls

    def everything(self):
        """Calls of all sorts, within the limits of a request."""
        draws = [lambda: mend(), lambda: least(), lambda: done(), lambda: done()] * 2
        draws = self.chance.sample(draws, self.chance.randint(1, 4)) + [self.check] * self.chance.randint(0, 10)
        for kind, most in ((self.wrong, 3), (self.line, 2), (self.less, 4), (self.wish, 3)):
            draws += [kind] * self.chance.randint(0, most)
        if self.chance.random() < 0.1:
            draws.append(begins)
        self.chance.shuffle(draws)
        self.setting()
        for draw in draws:
            self.add(draw())
        return self.calls


def verdicts(calls, ways):
    """What check answers for each of the ways, asked ten at a time."""
    told = {}
    for start in range(0, len(ways), 10):
        some_ways = ways[start:start + 10]
        told.update(zip(some_ways, replies(*calls, *[check(*way) for way in some_ways])[len(calls):]))
    return told


@functools.lru_cache(maxsize=None)
def settings():
    """Drawn axioms and wishes, the plain reading of them, and what check answers for each way."""
    told = []
    for seed in range(250):
        drawn = Draw(seed)
        calls = drawn.setting()
        told.append((seed, calls, drawn.plain, verdicts(calls, drawn.plain.ways())))
    return told


@functools.lru_cache(maxsize=None)
def lists():
    """Drawn lists with calls of all sorts."""
    return [(seed, Draw(seed).everything()) for seed in range(1000, 1600)]


class Points(unittest.TestCase):
    def test_all_answers_are_those_of_the_plain_reading(self):
        for seed, calls in lists():
            self.assertEqual(replies(*calls), plain_replies(calls), f"seed {seed}: {calls}")

    def test_point_1(self):
        for seed, calls, plain, told in settings():
            reply = replies(*calls, mend())[-1]
            prices = [told[way][1] for way in told if told[way][0] == 1]
            if reply == [-6]:
                self.assertEqual(prices, [], seed)
                continue
            way = tuple(reply[1:])
            self.assertEqual(told[way][:2], [1, reply[0]], seed)
            self.assertEqual(reply[0], min(prices), seed)
            self.assertEqual(way, min(way for way in told if told[way][:2] == [1, reply[0]]), seed)

    def test_point_2(self):
        for seed, calls, plain, told in settings():
            reply, repair = replies(*calls, least(), mend())[-2:]
            size = len(plain.axioms) + 1
            self.assertEqual(len(reply), 1 + reply[0] * size, seed)
            priced = [tuple(reply[place:place + size]) for place in range(1, len(reply), size)]
            satisfying = [way for way in told if told[way][0] == 1]
            minimal = [way for way in satisfying if [one for one in satisfying if not_above(one, way)] == [way]]
            self.assertEqual(priced, [(told[way][1], *way) for way in sorted(minimal)], seed)
            for way in satisfying:
                self.assertTrue(any(not_above(one[1:], way) for one in priced), seed)
            self.assertEqual(repair == [-6], not priced, seed)
            self.assertTrue(not priced or tuple(repair) in priced, seed)

    def test_point_3(self):
        for seed, calls, plain, told in settings():
            for way, other in itertools.product(told, told):
                if not_above(way, other):
                    self.assertLessEqual(told[way][1], told[other][1], seed)
                    for here, there in zip(told[way][2:], told[other][2:]):
                        self.assertGreaterEqual(here, there, seed)

    def test_point_4(self):
        for seed, calls, plain, told in settings():
            for way, reply in told.items():
                unwanted, wanted = plain.held(way)
                satisfied = int(not any(unwanted) and all(wanted))
                self.assertEqual(reply, [satisfied, plain.price(way), *map(int, unwanted + wanted)], seed)

    def test_point_5(self):
        for seed, calls, plain, told in settings():
            repair, reply, again, once_more = replies(*calls, mend(), done(), mend(), done())[-4:]
            if reply == [-6]:
                self.assertEqual([repair, again, once_more], [[-6]] * 3, seed)
                continue
            left = [level for level, (forms, prices) in zip(repair[1:], plain.axioms) if level < len(forms)]
            self.assertEqual(reply, [repair[0], len(left)], seed)
            self.assertEqual(again, [0] * (len(left) + 1), seed)
            self.assertEqual(once_more, [0, len(left)], seed)

    def test_point_6(self):
        """Each unwanted subsumption, and each form as one more, against the same calls without it."""
        dearer = 0
        for seed, calls, plain, told in settings():
            # A wish less can make room for one that was refused: only what was taken is asked again.
            calls = [call for call, reply in zip(calls, replies(*calls)) if reply[0] >= 0]
            unwanted = [place for place, call in enumerate(calls) if call[0] == 3]
            fewer = [(calls[:place] + calls[place + 1:], calls) for place in unwanted]
            forms = {form for forms, prices in plain.axioms for form in forms}
            more = [(calls, calls + [never(*map(written, form))]) for form in sorted(forms) if len(unwanted) < 2]
            for without, beside in fewer + more:
                before, after = replies(*without, mend())[-1], replies(*beside, mend())[-1]
                self.assertTrue(after == [-6] or before != [-6] and after[0] >= before[0], (seed, before, after))
                dearer += after != [-6] and after[0] > before[0]
        self.assertGreater(dearer, 100)

    def test_point_7(self):
        """Without a refused call, or without all of them, the other answers are the same."""
        for seed, calls in lists()[:200]:
            told = replies(*calls)
            refused = [place for place, reply in enumerate(told) if reply[0] < 0]
            for left_out in [refused] + [[place] for place in refused]:
                kept = [place for place in range(len(calls)) if place not in left_out]
                self.assertEqual(replies(*[calls[place] for place in kept]), [told[place] for place in kept], seed)


class Drawn(unittest.TestCase):
    """What is drawn keeps to the limits of a request, and reaches what the points speak of."""

    def test_limits(self):
        for seed, calls in lists():
            numbers = [call[0] for call in calls]
            self.assertLessEqual(len(calls), 60)
            self.assertLessEqual(numbers.count(7), 10)
            self.assertLessEqual(numbers.count(5) + numbers.count(6) + numbers.count(8), 4)

    def test_each_answer_is_drawn_often(self):
        counts = collections.Counter()
        for seed, calls in lists():
            counts.update((call[0], min(reply[0], 2)) for call, reply in zip(calls, plain_replies(calls)))
        codes = {1: (-7, -1, 0, 1, 2), 2: (-7, -5, -2, -1, 1, 2), 3: (-7, -1, 0, 1), 4: (-7, -1, 0, 1),
                 5: (-6, 0, 1, 2), 6: (0, 1, 2), 7: (-1, 0, 1), 8: (-6, 0, 1, 2)}
        for number, some_codes in codes.items():
            for code in some_codes:
                self.assertGreater(counts[number, code], 10, (number, code))


if __name__ == "__main__":
    unittest.main()
