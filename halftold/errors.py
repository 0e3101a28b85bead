"""The refusals, one class for each."""


class BracketError(ValueError):
    pass


class BadRow(BracketError):
    pass


class NoFilling(BracketError):
    pass


class BadNumber(BracketError):
    pass


class BadText(BracketError):
    pass


class BadPrices(BracketError):
    pass
