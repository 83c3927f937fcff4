"""The errors of the program."""


class ClashError(ValueError):
    """The base of all errors."""


class BadSpace(ClashError):
    """A value is no tuple of variables that a space takes."""


class BadOrder(ClashError):
    """A value is no order of the space."""


class BadRule(ClashError):
    """A value is no rule of the space."""


class BadTerms(ClashError):
    """A value is not the terms of a sum."""


class NoSuchName(ClashError):
    """No variable of the space has this name."""


class NoSuchRule(ClashError):
    """No active rule has this number."""

    def __init__(self, number):
        super().__init__(f"no active rule has the number {number}")
        self.number = number


class NothingPushed(ClashError):
    """There is no level that could end."""


class TooMany(ClashError):
    """There are as many rules or changes as a desk takes."""
