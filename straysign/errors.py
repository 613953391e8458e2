"""The refusals. Each is a StrayError, and that a ValueError."""


class StrayError(ValueError):
    pass


class NotPrime(StrayError):
    pass


class BadSign(StrayError):
    pass


class BadLength(StrayError):
    pass


class NotMended(StrayError):
    pass


class NoLine(StrayError):
    pass
