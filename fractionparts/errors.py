"""The errors that the program raises."""


class PartError(ValueError):
    """What all errors of the program have in common."""


class NoRow(PartError):
    """Something was handed in as a row and is none."""


class NoQuotient(PartError):
    """Something was handed in as a quotient and is none."""


class Nought(PartError):
    """Something would be divided by nought, or the parts of nought were asked."""
