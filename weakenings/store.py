"""What is there between the operations: the axioms with their forms, and the wishes."""

from weakenings.concepts import atoms_of, two_concepts
from weakenings.errors import NoRoom, NoSuchAxiom, NotWeaker, WrongNumbers
from weakenings.patterns import is_subsumed

MOST_AXIOMS = 3
MOST_FORMS = 3
MOST_WISHES = 2
MOST_ATOMS = 5
HIGHEST_PRICE = 1000


class Axiom:
    """An axiom's forms and prices; the step from level k to the level after it costs prices[k]."""

    def __init__(self, price, form):
        self.forms = [form]
        self.prices = [price]

    def weaken(self, price, form):
        """Adds a form after the last one; the removal stays the last step and keeps its price."""
        self.forms.append(form)
        self.prices.insert(len(self.prices) - 1, price)


class Store:
    """All axioms and wishes of one list of calls."""

    def __init__(self):
        self.axioms = []
        self.unwanted = []
        self.wanted = []

    def begins(self):
        """Removes all axioms and wishes."""
        self.axioms = []
        self.unwanted = []
        self.wanted = []
        return 0

    def line(self, price, numbers):
        """Adds an axiom with one form and the price of its removal, and gives its number."""
        form = two_concepts(numbers)
        check_price(price)
        self.check_room(self.axioms, MOST_AXIOMS, form)
        self.axioms.append(Axiom(price, form))
        return len(self.axioms) - 1

    def less(self, index, price, numbers):
        """Adds a form to the axiom with this number, and gives the form's number."""
        form = two_concepts(numbers)
        check_price(price)
        if index >= len(self.axioms):
            raise NoSuchAxiom("no axiom has this number")
        axiom = self.axioms[index]
        self.check_room(axiom.forms, MOST_FORMS, form)
        if not is_subsumed(form, [axiom.forms[-1]]):
            raise NotWeaker("the form does not follow from the last one")
        axiom.weaken(price, form)
        return len(axiom.forms) - 1

    def never(self, numbers):
        """Adds an unwanted subsumption, and gives its index among these."""
        return self.wish(self.unwanted, numbers)

    def keep(self, numbers):
        """Adds a wanted subsumption, and gives its index among these."""
        return self.wish(self.wanted, numbers)

    def wish(self, wishes, numbers):
        """Adds a subsumption to these wishes, and gives its index among them."""
        pair = two_concepts(numbers)
        self.check_room(wishes, MOST_WISHES, pair)
        wishes.append(pair)
        return len(wishes) - 1

    def check_room(self, present, most, pair):
        """Refuses a pair that is one too many beside those present, or brings too many atoms."""
        if len(present) >= most:
            raise NoRoom("no more of these")
        if len(atoms_of(self.all_concepts() + list(pair))) > MOST_ATOMS:
            raise NoRoom("too many atoms")

    def all_concepts(self):
        """The concepts of all forms and wishes."""
        concepts = []
        for axiom in self.axioms:
            for form in axiom.forms:
                concepts.extend(form)
        for pair in self.unwanted + self.wanted:
            concepts.extend(pair)
        return concepts


def check_price(price):
    """Refuses a price out of its range."""
    if price < 1 or price > HIGHEST_PRICE:
        raise WrongNumbers("no such price")
