"""The refusals: one class for each, so that each can be taken by its name."""


class LatheError(ValueError):
    pass


class UnknownWheel(LatheError):
    pass


class NoTrain(LatheError):
    pass


class WrongNut(LatheError):
    pass


class BadNumber(LatheError):
    pass


class NoMeeting(LatheError):
    pass


class BookFull(LatheError):
    pass


class NothingDone(LatheError):
    pass
