"""The errors that the package raises."""


class SecondError(Exception):
    """The base of all errors of this package."""


class BadValue(SecondError):
    """The argument with the position `at` is not as described."""

    def __init__(self, at):
        SecondError.__init__(self, f"the argument {at} is not as described")
        self.at = at


class BadText(SecondError):
    """The word with the number `at` may not stand in the text."""

    def __init__(self, at):
        SecondError.__init__(self, f"the word {at} may not stand there")
        self.at = at


class BadRow(SecondError):
    """The row with the number `at` cannot follow those before it."""

    def __init__(self, at):
        SecondError.__init__(self, f"the row {at} cannot follow")
        self.at = at


class Clash(SecondError):
    """A fact like `fact`, but with another value, was told before."""

    def __init__(self, fact):
        SecondError.__init__(self, "the fact was told with another value")
        self.fact = fact


class NoCall(SecondError):
    """The call `call` does not run."""

    def __init__(self, call):
        SecondError.__init__(self, "the call does not run")
        self.call = call


class TakenCall(SecondError):
    """The call `call` runs or has ended."""

    def __init__(self, call):
        SecondError.__init__(self, "the call runs or has ended")
        self.call = call


class NoMoney(SecondError):
    """The money that is not held is too little."""


class NotNow(SecondError):
    """What was asked for cannot be done now."""
