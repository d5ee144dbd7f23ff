"""The refusals of the program."""


class WireError(ValueError):
    pass


class NoSegment(WireError):
    pass


class NoPort(WireError):
    pass
