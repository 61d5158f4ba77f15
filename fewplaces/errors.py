"""The refusals of the program."""


class PlaceError(ValueError):
    pass


class NoValue(PlaceError):
    pass


class NoInput(PlaceError):
    pass


class TooFew(PlaceError):
    pass
