"""The refusals of the program."""


class FindError(ValueError):
    pass


class NoPattern(FindError):
    pass


class NoPrices(FindError):
    pass


class TooMany(FindError):
    pass
