"""The refusals of Halfask: one class for each, all of them under HalfError."""


class HalfError(ValueError):
    pass


class NoHand(HalfError):
    pass


class NoKeeper(HalfError):
    pass


class NoLetter(HalfError):
    pass


class Busy(HalfError):
    pass


class Idle(HalfError):
    pass


class NoLine(HalfError):
    pass
