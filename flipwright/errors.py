"""The refusals: each is a FlipError, and none stands under another one of them."""


class FlipError(ValueError):
    pass


class NoShare(FlipError):
    pass


class Never(FlipError):
    pass


class NoText(FlipError):
    def __init__(self, row):
        self.row = row


class NoName(FlipError):
    def __init__(self, row):
        self.row = row


class TooMuch(FlipError):
    pass


class NoOrder(FlipError):
    pass


class NoNumber(FlipError):
    pass


class NoRow(FlipError):
    pass
