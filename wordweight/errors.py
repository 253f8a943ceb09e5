"""The errors of the package."""


class Fault(ValueError):
    """The base class of all errors that the program raises."""


class ZeroDivisor(Fault):
    """A division by zero."""


class Malformed(Fault):
    """An argument does not have the form that is asked for."""


class Refused(Fault):
    """Something that the program does not do, with the reason in one word."""

    def __init__(self, reason):
        self.reason = reason


class NoText(Fault):
    """A text that cannot be read, with the position at which it goes wrong."""

    def __init__(self, at):
        self.at = at
