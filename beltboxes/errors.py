"""The refusals of the program, one class for each."""


class BeltError(ValueError):
    pass


class NoNumber(BeltError):
    pass


class NoBox(BeltError):
    pass


class NoParcel(BeltError):
    pass
