"""The refusals, each a class by itself under RowError."""


class RowError(ValueError):
    pass


class TooLong(RowError):
    pass


class NoRow(RowError):
    pass


class NoPlace(RowError):
    pass


class TooDeep(RowError):
    pass


class NoMeasure(RowError):
    pass


class Twice(RowError):
    pass


class Full(RowError):
    pass


class NoBox(RowError):
    pass


class Open(RowError):
    pass


class TooMany(RowError):
    pass


class NoForm(RowError):
    pass


class NoneYet(RowError):
    pass


class NoTarget(RowError):
    pass
