"""The refusals: one class for each, all straight under BeachError."""


class BeachError(ValueError):
    pass


class NoGate(BeachError):
    pass


class Taken(BeachError):
    pass


class UpsideDown(BeachError):
    pass


class OutOfBounds(BeachError):
    pass


class BeachFull(BeachError):
    pass


class DeedsFull(BeachError):
    pass


class NothingBack(BeachError):
    pass


class BadList(BeachError):
    pass


class TooFew(BeachError):
    pass


class WrongSize(BeachError):
    pass


class BadThrow(BeachError):
    pass


class BadRow(BeachError):
    pass
