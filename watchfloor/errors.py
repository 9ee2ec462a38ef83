"""The errors that the program raises, all under one base class."""


class WatchError(ValueError):
    """The base class of all errors that the program raises."""


class InvalidArgument(WatchError):
    """An argument that is refused; `name` tells which one, or what is wrong with it."""

    def __init__(self, name):
        self.name = name


class BadExpression(WatchError):
    """A text that is no expression."""

    def __init__(self, fault, place):
        self.fault = fault
        self.place = place


class BadSteps(WatchError):
    """Steps of which no expression can be made."""

    def __init__(self, place):
        self.place = place


class BadSetup(WatchError):
    """Parts that are no setup."""

    def __init__(self, part, place):
        self.part = part
        self.place = place


class ConflictingSamples(WatchError):
    """Samples of which one contradicts another one."""

    def __init__(self, place):
        self.place = place


class Damaged(WatchError):
    """A block on a disk that cannot be opened."""

    def __init__(self, place):
        self.place = place


class NotABlock(WatchError):
    """Bytes that are not those of a block."""


class NotLater(WatchError):
    """An evaluation at a time that is not later than the one before."""


class TooLate(WatchError):
    """A tick after the last time."""


class TooManyTimes(WatchError):
    """More times than are computed in one call."""


class TooManySamples(WatchError):
    """More sample alerts than are made in one call."""


class PeriodTooLong(WatchError):
    """A period too long for answers about all times."""


class TooFewChannels(WatchError):
    """A person who is not sure to be reached."""


class NotReached(WatchError):
    """An acknowledgement by somebody who was not reached."""


class BadLine(WatchError):
    """A journal with a line that is refused."""

    def __init__(self, line):
        self.line = line


class BadConfiguration(WatchError):
    """A text that is not that of a setup."""

    def __init__(self, problems):
        self.problems = list(problems)
