"""The errors of the program."""


class ScribeError(ValueError):
    """The base class of all errors of the program."""


class BadSign(ScribeError):
    """A text has a character that never stands in such a text."""

    def __init__(self, place):
        super().__init__(f"a character that cannot stand in such a text, at {place}")
        self.place = place


class Unexpected(ScribeError):
    """A text cannot go on as it does at a place, or ends there too early."""

    def __init__(self, place):
        super().__init__(f"a character that cannot stand here, or an end too early, at {place}")
        self.place = place
