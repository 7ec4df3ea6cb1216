"""The refusals: each class stands straight under MillError, none under another one."""


class MillError(ValueError):
    pass


class BadMill(MillError):
    pass


class BadLate(MillError):
    pass


class BadWord(MillError):
    pass


class BadCode(MillError):
    pass


class BadSize(MillError):
    pass


class BadLetters(MillError):
    pass


class BadPlan(MillError):
    pass


class BadWish(MillError):
    pass


class BadCount(MillError):
    pass


class BadRow(MillError):
    pass


class BadPrices(MillError):
    pass


class NotOneOrder(MillError):
    pass


class NoRow(MillError):
    pass


class Shut(MillError):
    pass


class BadDeed(MillError):
    pass


class BadText(MillError):
    def __init__(self, row):
        self.row = row
