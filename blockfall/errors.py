"""The refusals, one class each; all stand straight under FallError."""


class FallError(ValueError):
    pass


class TooLong(FallError):
    pass


class NoRow(FallError):
    pass


class NoPlace(FallError):
    pass


class Twice(FallError):
    pass


class Full(FallError):
    pass


class NoBox(FallError):
    pass


class Open(FallError):
    pass


class NoBlock(FallError):
    pass


class NoForm(FallError):
    pass


class NoneYet(FallError):
    pass


class NoOrder(FallError):
    pass


class NoWay(FallError):
    pass
