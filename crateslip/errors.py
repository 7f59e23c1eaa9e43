"""The refusals of the program."""


class SlipError(ValueError):
    pass


class NoTable(SlipError):
    pass


class NoRow(SlipError):
    pass
