"""Concepts: tuples of whole numbers in prefix notation, and what stands inside them."""

from weakenings.errors import WrongNumbers

# Signs: the first numbers of concepts.
EVERYTHING = 0
NOTHING = 1
NAME = 2
BOTH = 3
EITHER = 4
SOME = 6

# The signs of names and of concepts about related ones.
ATOM_SIGNS = (2, 6, 7)
# For each sign: how many names or roles may stand behind it (0: none stands there) ...
CHOICES = (0, 0, 4, 0, 0, 0, 2, 2)
# ... and how many concepts follow.
FOLLOWERS = (0, 0, 0, 2, 2, 1, 1, 1)


def head_length(numbers, place):
    """How many numbers stand here ahead of the concepts that follow; 0 if no concept begins here."""
    if place >= len(numbers) or numbers[place] >= len(CHOICES):
        return 0
    choices = CHOICES[numbers[place]]
    if choices == 0:
        return 1
    if place + 1 >= len(numbers) or numbers[place + 1] >= choices:
        return 0
    return 2


def end_of(numbers, start):
    """The place behind the concept that begins at start, or None if there is no whole one."""
    place = start
    missing = 1
    while missing > 0:
        length = head_length(numbers, place)
        if length == 0:
            return None
        missing += FOLLOWERS[numbers[place]] - 1
        place += length
    return place


def two_concepts(numbers):
    """The two concepts that the numbers are."""
    middle = end_of(numbers, 0)
    if middle is None or end_of(numbers, middle) != len(numbers):
        raise WrongNumbers("not exactly two concepts")
    return (tuple(numbers[:middle]), tuple(numbers[middle:]))


def followers_of(concept):
    """The concepts that the concept's first sign speaks of."""
    followers = []
    place = head_length(concept, 0)
    while place < len(concept):
        end = end_of(concept, place)
        followers.append(concept[place:end])
        place = end
    return followers


def parts_of(concept):
    """The concept and all that stand inside it, each one ahead of those inside itself."""
    parts = []
    place = 0
    while place < len(concept):
        parts.append(concept[place:end_of(concept, place)])
        place += head_length(concept, place)
    return parts


def atoms_of(concepts):
    """The atoms of all these concepts, each one once."""
    atoms = []
    for concept in concepts:
        for part in parts_of(concept):
            if part[0] in ATOM_SIGNS and part not in atoms:
                atoms.append(part)
    return atoms
