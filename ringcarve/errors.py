"""The refusals of the program."""


class RingError(ValueError):
    pass


class NoWord(RingError):
    pass
