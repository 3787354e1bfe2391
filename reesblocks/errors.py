"""The errors that the package raises."""


class Fault(ValueError):
    """The base class of all errors that the package raises."""


class Malformed(Fault):
    """An argument has not the form that it must have."""


class Refused(Fault):
    """An argument has the right form, but is refused for the told reason."""

    def __init__(self, reason):
        self.reason = reason


class NoText(Fault):
    """A text cannot be read; `at` tells where it goes wrong."""

    def __init__(self, at):
        self.at = at
