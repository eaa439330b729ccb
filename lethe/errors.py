"""The errors of the program (point 1.2)."""


class LetheError(ValueError):
    """The base class of every error that the program raises."""


class NotAllowed(LetheError):
    """An argument is outside of its limits."""


class BadForm(LetheError):
    """A text or a list of blocks is not of the form that is read."""


class Full(LetheError):
    """There is no room for one more."""


class Missing(LetheError):
    """What is asked for is not there."""


class Twice(LetheError):
    """What is to be added is there already."""


class Down(LetheError):
    """The power is off, or an object was lost when it failed."""
