"""Ways: tuples with a level for each axiom, in the order of the axioms."""


def all_ways(axioms):
    """All ways, in their order."""
    ways = [()]
    for axiom in axioms:
        longer = []
        for way in ways:
            for level in range(axiom.removal() + 1):
                longer.append(way + (level,))
        ways = longer
    return ways


def is_way(axioms, levels):
    """Whether there is exactly one level for each axiom, and each axiom has its level."""
    if len(levels) != len(axioms):
        return False
    return all([level <= axiom.removal() for axiom, level in zip(axioms, levels)])


def price_of(axioms, way):
    """The sum of the prices of the levels."""
    return sum([axiom.price_to(level) for axiom, level in zip(axioms, way)])


def forms_at(axioms, way):
    """The forms of the axioms at their levels, without those that are removed."""
    forms = []
    for axiom, level in zip(axioms, way):
        if level < axiom.removal():
            forms.append(axiom.forms[level])
    return forms


def is_nowhere_higher(way, other):
    """Whether no level of the way is higher than in the other one."""
    return all([level <= bound for level, bound in zip(way, other)])


def minimal_among(ways):
    """Those of the ways beside which none is left whose levels are nowhere higher."""
    minimal = []
    for way in ways:
        if not any([other != way and is_nowhere_higher(other, way) for other in ways]):
            minimal.append(way)
    return minimal
