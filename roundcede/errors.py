"""The refusals, one class for each."""


class CedeError(ValueError):
    pass


class BadName(CedeError):
    pass


class KnownHouse(CedeError):
    pass


class UnknownHouse(CedeError):
    pass


class ToItself(CedeError):
    pass


class DaysTurned(CedeError):
    pass


class OutOfRange(CedeError):
    pass


class TooMuch(CedeError):
    pass


class ShutIn(CedeError):
    def __init__(self, day, names):
        # Without words of its own the error would keep the very list that was handed in.
        CedeError.__init__(self, f"houses would be shut in on day {day}")
        self.day = day
        self.names = list(names)


class Full(CedeError):
    pass


class NothingDone(CedeError):
    pass


class Unclear(CedeError):
    pass
