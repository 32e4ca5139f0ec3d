"""The refusals, one class each, and the error for calls that there are not."""


class WrongNumbers(Exception):
    """The numbers are not exactly two concepts, or the price is out of its range."""


class NoSuchAxiom(Exception):
    """No axiom has this number."""


class NotWeaker(Exception):
    """The new form does not follow from the last one."""


class NoRoom(Exception):
    """There would be too many axioms, forms, wishes or atoms."""


class UnknownCall(Exception):
    """No call has this number."""
