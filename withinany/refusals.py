"""The errors: a class for each refusal, and one for a call that isn't there."""


class NotAsTold(Exception):
    """What is handed in hasn't the form that is told for it."""


class TooLarge(Exception):
    """An expression is larger than is allowed."""


class NoLine(Exception):
    """There is no line along which an expression leads straight."""


class NoSuchCall(Exception):
    """The program has no call of this number; this isn't answered."""
