"""The refusals, a class for each; all of them can be caught as ShredError."""


class ShredError(ValueError):
    pass


class NoText(ShredError):
    pass


class NoHeap(ShredError):
    pass


class NoPiece(ShredError):
    pass


class NoLine(ShredError):
    pass


class NoTexts(ShredError):
    pass


class NoNumber(ShredError):
    pass


class NoDeed(ShredError):
    pass


class Unlike(ShredError):
    pass


class Apart(ShredError):
    pass
