"""The refusals: one class for each, all of them under TurnError."""


class TurnError(ValueError):
    pass


class BadSize(TurnError):
    pass


class BadClash(TurnError):
    pass


class NoStream(TurnError):
    pass


class BadWish(TurnError):
    pass


class BadNote(TurnError):
    pass
