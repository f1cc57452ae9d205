"""The errors that the program raises."""


class OffingError(ValueError):
    """The base of all errors of the program."""


class BadNumbers(OffingError):
    """A list of integers is none that was written by the program."""

    def __init__(self, why):
        self.why = why


class BadBlock(OffingError):
    """A block is not one that can be trusted at first."""

    def __init__(self, fault):
        self.fault = fault
