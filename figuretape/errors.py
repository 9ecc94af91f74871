"""The refusals: each one has a class of its own, and all stand under TapeError."""


class TapeError(ValueError):
    pass


class BadBase(TapeError):
    pass


class BadTape(TapeError):
    pass


class TooSmall(TapeError):
    pass


class NoDivisor(TapeError):
    pass
