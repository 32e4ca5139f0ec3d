"""Concepts and calls in the numbers in which they are handed in."""

from weakenings.service import answers

ALL = [0]
NONE = [1]
A = [2, 0]
B = [2, 1]
C = [2, 2]
D = [2, 3]


def both(first, second):
    return [3] + first + second


def either(first, second):
    return [4] + first + second


def without(concept):
    return [5] + concept


def some(role, concept):
    return [6, role] + concept


def only(role, concept):
    return [7, role] + concept


def listed(concepts):
    numbers = [number for concept in concepts for number in concept]
    return [len(numbers)] + numbers


def begins():
    return [0]


def line(price, *concepts):
    return [1, price] + listed(concepts)


def less(index, price, *concepts):
    return [2, index, price] + listed(concepts)


def never(*concepts):
    return [3] + listed(concepts)


def keep(*concepts):
    return [4] + listed(concepts)


def mend():
    return [5]


def least():
    return [6]


def check(*levels):
    return [7, len(levels)] + list(levels)


def done():
    return [8]


def stairs(prices, others):
    """Two axioms of three forms: A is subsumed by D just as long as their levels are below three together."""
    return [
        line(prices[2], A, both(B, C)), less(0, prices[0], A, B), less(0, prices[1], A, either(B, C)),
        line(others[2], either(B, C), D), less(1, others[0], B, D), less(1, others[1], both(B, C), D),
    ]


def flat(calls):
    """The calls one behind another, as they are handed in."""
    return [number for call in calls for number in call]


def taken_apart(told):
    """For each call the list of the numbers that it answers."""
    replies, place = [], 0
    while place < len(told):
        end = place + 1 + told[place]
        if end > len(told):
            raise AssertionError(f"cut off: {told}")
        replies.append(told[place + 1:end])
        place = end
    return replies


def replies(*calls):
    """For each of these calls, handed in as one list, the list of the numbers that it answers."""
    told = taken_apart(answers(flat(calls)))
    if len(told) != len(calls):
        raise AssertionError(f"not one answer for each call: {told}")
    return told


def results(*calls):
    """The one number that each of these calls answers, when they are handed in as one list."""
    told = replies(*calls)
    if [len(reply) for reply in told] != [1] * len(calls):
        raise AssertionError(f"not one number for each call: {told}")
    return [reply[0] for reply in told]
