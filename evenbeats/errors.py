"""The refusals of the program."""


class BeatError(ValueError):
    pass


class BadRing(BeatError):
    pass


class BadCount(BeatError):
    pass


class NoBeat(BeatError):
    pass


class Uneven(BeatError):
    pass
