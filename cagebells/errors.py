"""The refusals: one class for each, all straight under CageError."""


class CageError(ValueError):
    pass


class BadDepths(CageError):
    pass


class BadCodes(CageError):
    pass


class BadSpeeds(CageError):
    pass


class BadLoads(CageError):
    pass


class UnknownLevel(CageError):
    pass


class UnknownLoad(CageError):
    pass


class GateOpen(CageError):
    pass


class GateShut(CageError):
    pass


class NotArmed(CageError):
    pass


class NoCode(CageError):
    pass


class NothingRung(CageError):
    pass


class DeadBell(CageError):
    pass


class NoChange(CageError):
    pass


class NotThere(CageError):
    pass


class CageTaken(CageError):
    pass


class CageEmpty(CageError):
    pass


class BadRow(CageError):
    pass


class NoTick(CageError):
    pass


class NothingDone(CageError):
    pass


class BookFull(CageError):
    pass
