"""The refusals, one class for each."""


class PenError(ValueError):
    pass


class NoWord(PenError):
    pass


class NoPicture(PenError):
    pass


class NoRoom(PenError):
    pass


class NoStep(PenError):
    pass


class NoNumber(PenError):
    pass


class BadNote(PenError):
    pass
