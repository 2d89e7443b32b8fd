"""The errors that the program raises."""


class HouseError(ValueError):
    """The base class of all errors of the program."""


class BadText(HouseError):
    """A text that is refused at the word with the index `at`."""

    def __init__(self, at):
        HouseError.__init__(self, f"the text is refused at word {at}")
        self.at = at


class BadAct(HouseError):
    """An act that cannot be done, behind `at` acts that were done."""

    def __init__(self, at):
        HouseError.__init__(self, f"the act behind {at} others cannot be done")
        self.at = at


class BadGuard(HouseError):
    """A guard that the house cannot have, at the index `at` of a list."""

    def __init__(self, at):
        HouseError.__init__(self, f"the house cannot have guard {at}")
        self.at = at


class BadPaper(HouseError):
    """A line of written rows that is refused, with the index `at`."""

    def __init__(self, at):
        HouseError.__init__(self, f"line {at} is refused")
        self.at = at


class TooLarge(HouseError):
    """A bound of the program that is passed; `what` names it."""

    def __init__(self, what):
        HouseError.__init__(self, f"too large: {what}")
        self.what = what


class BadHouse(HouseError):
    """A house that cannot take the place of another one; `what` names the difference."""

    def __init__(self, what):
        HouseError.__init__(self, f"the houses differ: {what}")
        self.what = what
