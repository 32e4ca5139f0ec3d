"""Concepts and calls in the numbers in which they are handed in."""

from weakenings.service import answers

ALL = [0]
NONE = [1]
A = [2, 0]
B = [2, 1]
C = [2, 2]
D = [2, 3]


def both(first, second):
    return [3] + first + second


def either(first, second):
    return [4] + first + second


def without(concept):
    return [5] + concept


def some(role, concept):
    return [6, role] + concept


def only(role, concept):
    return [7, role] + concept


def listed(concepts):
    numbers = [number for concept in concepts for number in concept]
    return [len(numbers)] + numbers


def begins():
    return [0]


def line(price, *concepts):
    return [1, price] + listed(concepts)


def less(index, price, *concepts):
    return [2, index, price] + listed(concepts)


def never(*concepts):
    return [3] + listed(concepts)


def keep(*concepts):
    return [4] + listed(concepts)


def results(*calls):
    """The one number that each of these calls answers, when they are handed in as one list."""
    told = answers([number for call in calls for number in call])
    if told[0::2] != [1] * len(calls):
        raise AssertionError(f"not one number for each call: {told}")
    return told[1::2]
