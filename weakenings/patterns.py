"""Subsumption with axioms.

A pattern tells of each atom whether an element of a model has it: bit k of the
pattern stands for atom k. There are so few atoms that all patterns can be listed,
so a group of patterns is a whole number, too: bit p stands for pattern p.
"""

from weakenings.concepts import ATOM_SIGNS, BOTH, EITHER, EVERYTHING, NAME, NOTHING, SOME
from weakenings.concepts import atoms_of, followers_of, parts_of


class Link:
    """What an atom of a role asks: elements of the needy patterns, and no others, are related to one of the goal."""

    def __init__(self, role, needy, goal):
        self.role = role
        self.needy = needy
        self.goal = goal


class Patterns:
    """All patterns of the atoms of some concepts, and for each concept the group that has it."""

    def __init__(self, concepts):
        atoms = atoms_of(concepts)
        self.total = 1 << len(atoms)
        self.whole = (1 << self.total) - 1
        self.groups = {}
        for bit, atom in enumerate(atoms):
            self.groups[atom] = sum([1 << pattern for pattern in range(self.total) if pattern >> bit & 1])
        for concept in concepts:
            # A concept stands ahead of those inside it, and needs their groups.
            for part in reversed(parts_of(concept)):
                if part[0] not in ATOM_SIGNS:
                    self.groups[part] = self.joined(part)
        self.links = [self.link_of(atom) for atom in atoms if atom[0] != NAME]

    def joined(self, concept):
        """The group of a concept that is no atom, from the groups of its followers."""
        groups = [self.groups[follower] for follower in followers_of(concept)]
        if concept[0] == EVERYTHING:
            return self.whole
        if concept[0] == NOTHING:
            return 0
        if concept[0] == BOTH:
            return groups[0] & groups[1]
        if concept[0] == EITHER:
            return groups[0] | groups[1]
        # What is left is the sign of those that do not have the concept.
        return self.whole ^ groups[0]

    def link_of(self, atom):
        """The link of an atom that begins with a role's sign."""
        needy = self.groups[atom]
        goal = self.groups[followers_of(atom)[0]]
        if atom[0] == SOME:
            return Link(atom[1], needy, goal)
        # Not to be related only to elements of a group is to be related to some element out of it.
        return Link(atom[1], self.whole ^ needy, self.whole ^ goal)

    def relatable(self, pattern, role, group):
        """Those of the group to which an element of the pattern may be related by the role."""
        for link in self.links:
            if link.role == role and not link.needy >> pattern & 1:
                group = group & ~link.goal
        return group

    def can_occur(self, pattern, group):
        """Whether an element of the pattern can have all related ones it needs from the group."""
        for link in self.links:
            if link.needy >> pattern & 1 and link.goal & self.relatable(pattern, link.role, group) == 0:
                return False
        return True

    def occurring(self, axioms):
        """The group of patterns that occur in some model in which all the axioms hold."""
        group = self.whole
        for axiom in axioms:
            group = group & ~self.against(axiom)
        before = None
        # A pattern that is ruled out may have been what another one needed.
        while group != before:
            before = group
            for pattern in range(self.total):
                if group >> pattern & 1 and not self.can_occur(pattern, group):
                    group = group & ~(1 << pattern)
        return group

    def against(self, pair):
        """The group of patterns that have the first concept and not the second one."""
        return self.groups[pair[0]] & ~self.groups[pair[1]]

    def subsumptions(self, pairs, axioms):
        """For each pair whether its first concept is subsumed by its second one with the axioms."""
        group = self.occurring(axioms)
        return [group & self.against(pair) == 0 for pair in pairs]


def is_subsumed(pair, axioms):
    """Whether the first concept of the pair is subsumed by the second one with the axioms."""
    concepts = list(pair)
    for axiom in axioms:
        concepts.extend(axiom)
    return Patterns(concepts).subsumptions([pair], axioms)[0]
