"""What is there between the operations: the axioms with their forms, and the wishes."""

from weakenings.axioms import Axiom
from weakenings.concepts import atoms_of, two_concepts
from weakenings.errors import NoRepair, NoRoom, NoSuchAxiom, NotWeaker, WrongNumbers
from weakenings.patterns import Patterns, is_subsumed
from weakenings.ways import all_ways, forms_at, is_way, minimal_among, price_of

MOST_AXIOMS = 3
MOST_FORMS = 3
MOST_WISHES = 2
MOST_ATOMS = 5
HIGHEST_PRICE = 1000


class Store:
    """All axioms and wishes of one list of calls."""

    def __init__(self):
        self.axioms = []
        self.unwanted = []
        self.wanted = []

    def begins(self):
        """Removes all axioms and wishes."""
        self.axioms = []
        self.unwanted = []
        self.wanted = []
        return 0

    def line(self, price, numbers):
        """Adds an axiom with one form and the price of its removal, and gives its number."""
        form = two_concepts(numbers)
        check_price(price)
        self.check_room(self.axioms, MOST_AXIOMS, form)
        self.axioms.append(Axiom([form], [price]))
        return len(self.axioms) - 1

    def less(self, index, price, numbers):
        """Adds a form to the axiom with this number, and gives the form's number."""
        form = two_concepts(numbers)
        check_price(price)
        if index >= len(self.axioms):
            raise NoSuchAxiom("no axiom has this number")
        axiom = self.axioms[index]
        self.check_room(axiom.forms, MOST_FORMS, form)
        if not is_subsumed(form, [axiom.forms[-1]]):
            raise NotWeaker("the form does not follow from the last one")
        axiom.weaken(price, form)
        return len(axiom.forms) - 1

    def never(self, numbers):
        """Adds an unwanted subsumption, and gives its index among these."""
        return self.wish(self.unwanted, numbers)

    def keep(self, numbers):
        """Adds a wanted subsumption, and gives its index among these."""
        return self.wish(self.wanted, numbers)

    def wish(self, wishes, numbers):
        """Adds a subsumption to these wishes, and gives its index among them."""
        pair = two_concepts(numbers)
        self.check_room(wishes, MOST_WISHES, pair)
        wishes.append(pair)
        return len(wishes) - 1

    def mend(self):
        """The price of the repair, then its levels."""
        return self.priced(self.repair())

    def least(self):
        """How many minimal ways there are, then of each its price and its levels."""
        minimal = minimal_among(self.satisfying())
        numbers = [len(minimal)]
        for way in minimal:
            numbers.extend(self.priced(way))
        return numbers

    def check(self, levels):
        """Whether the way satisfies all wishes, its price, then of each wish whether its subsumption holds."""
        if not is_way(self.axioms, levels):
            raise WrongNumbers("not exactly one level for each axiom")
        held = self.held_with(levels, Patterns(self.all_concepts()))
        return [int(self.satisfied_by(held)), price_of(self.axioms, levels)] + [int(holds) for holds in held]

    def done(self):
        """Carries out the repair, and gives its price and how many axioms are left."""
        way = self.repair()
        price = price_of(self.axioms, way)
        weakened = [axiom.weakened_to(level) for axiom, level in zip(self.axioms, way)]
        self.axioms = [axiom for axiom in weakened if axiom.removal() > 0]
        return [price, len(self.axioms)]

    def priced(self, way):
        """The way's price, then its levels."""
        return [price_of(self.axioms, way)] + list(way)

    def repair(self):
        """The first of the ways of the lowest price that satisfy all wishes."""
        ways = self.satisfying()
        if not ways:
            raise NoRepair("no way satisfies all wishes")
        # Of several of the lowest price, the one that min meets first is given.
        return min(ways, key=lambda way: price_of(self.axioms, way))

    def satisfying(self):
        """The ways that satisfy all wishes, in their order."""
        patterns = Patterns(self.all_concepts())
        return [way for way in all_ways(self.axioms) if self.satisfied_by(self.held_with(way, patterns))]

    def held_with(self, way, patterns):
        """For each unwanted and then for each wanted subsumption whether it holds with the way."""
        return patterns.subsumptions(self.unwanted + self.wanted, forms_at(self.axioms, way))

    def satisfied_by(self, held):
        """Whether all wishes are satisfied where this is what holds of their subsumptions."""
        count = len(self.unwanted)
        return not any(held[:count]) and all(held[count:])

    def check_room(self, present, most, pair):
        """Refuses a pair that is one too many beside those present, or brings too many atoms."""
        if len(present) >= most:
            raise NoRoom("no more of these")
        if len(atoms_of(self.all_concepts() + list(pair))) > MOST_ATOMS:
            raise NoRoom("too many atoms")

    def all_concepts(self):
        """The concepts of all forms and wishes."""
        concepts = []
        for axiom in self.axioms:
            for form in axiom.forms:
                concepts.extend(form)
        for pair in self.unwanted + self.wanted:
            concepts.extend(pair)
        return concepts


def check_price(price):
    """Refuses a price out of its range."""
    if price < 1 or price > HIGHEST_PRICE:
        raise WrongNumbers("no such price")
