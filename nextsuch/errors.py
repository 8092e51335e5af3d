"""The errors of the package: one class for each kind of failure."""


class NoPlace(LookupError):
    """There is no such place and no such end."""

    def __init__(self, place):
        self.place = place


class BadText(ValueError):
    """A line can not stand behind those ahead of it."""

    def __init__(self, line):
        self.line = line


class CanNot(ValueError):
    """There is nothing of what was asked for."""

    def __init__(self):
        pass


class TooMuch(ValueError):
    """What was asked for goes beyond what is worked out."""

    def __init__(self):
        pass


class Unfit(ValueError):
    """The arguments do not fit one another, or what was asked for."""

    def __init__(self):
        pass
