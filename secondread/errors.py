"""The refusals: one class for each, all of them under ReadError."""


class ReadError(ValueError):
    pass


class OutOfTime(ReadError):
    pass


class UnknownNumber(ReadError):
    pass


class NotDue(ReadError):
    pass


class OutOfBounds(ReadError):
    pass


class Full(ReadError):
    pass
