"""The refusals of the program, an error class for each."""


class BarError(ValueError):
    pass


class BadBars(BarError):
    pass


class NoBar(BarError):
    pass


class BadPlace(BarError):
    pass


class BadTree(BarError):
    pass


class BadLinks(BarError):
    pass
