"""The refusals, one class each, and the error for calls that there are not."""


class WrongNumbers(Exception):
    """The numbers are not exactly two concepts, the price is out of its range, or the levels are no way."""


class NoSuchAxiom(Exception):
    """No axiom has this number."""


class NotWeaker(Exception):
    """The new form does not follow from the last one."""


class NoRepair(Exception):
    """No way satisfies all wishes."""


class NoRoom(Exception):
    """There would be too many axioms, forms, wishes or atoms."""


class UnknownCall(Exception):
    """No call has this number."""
