"""The errors of the program."""


class RightsError(ValueError):
    """What was asked for cannot be done, for the reason told."""

    def __init__(self, reason):
        ValueError.__init__(self, reason)
        self.reason = reason


class TextError(RightsError):
    """A text is not that of a program; line tells where, counted from 0."""

    def __init__(self, line, reason):
        RightsError.__init__(self, reason)
        self.line = line
