"""Axioms: their forms, each weaker than the one before, and the prices of the steps between them."""


class Axiom:
    """An axiom's forms and prices; the step from level k to the level after it costs prices[k]."""

    def __init__(self, forms, prices):
        self.forms = forms
        self.prices = prices

    def weaken(self, price, form):
        """Adds a form after the last one; the removal stays the last step and keeps its price."""
        self.forms.append(form)
        self.prices.insert(len(self.prices) - 1, price)

    def removal(self):
        """The level at which the axiom is removed, the highest one."""
        return len(self.forms)

    def price_to(self, level):
        """The price of the level: of all steps to it."""
        return sum(self.prices[:level])

    def weakened_to(self, level):
        """The axiom without the forms before that of the level."""
        return Axiom(self.forms[level:], self.prices[level:])
