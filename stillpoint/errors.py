"""The refusals of Stillpoint."""


class StillError(ValueError):
    pass


class NoThing(StillError):
    pass


class NoDirectory(StillError):
    pass


class BadName(StillError):
    pass


class IsThere(StillError):
    pass


class NoRoom(StillError):
    pass


class NotEmpty(StillError):
    pass


class WrongKind(StillError):
    pass


class TooGreat(StillError):
    pass


class ReadOnly(StillError):
    pass


class NoFiles(StillError):
    pass
