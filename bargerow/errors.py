"""The refusals."""


class RowError(ValueError):
    pass


class NoPlace(RowError):
    pass
