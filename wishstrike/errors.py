"""The refusals of the program, one class each."""


class WishError(ValueError):
    pass


class NoWish(WishError):
    def __init__(self, number):
        WishError.__init__(self, f"wish {number} is none, or is not of the stand")
        self.number = number


class NoStand(WishError):
    pass


class NoName(WishError):
    pass


class NoWorth(WishError):
    pass


class TooMany(WishError):
    pass


class Settled(WishError):
    pass


class Free(WishError):
    pass


class NoText(WishError):
    pass


class NoLine(WishError):
    pass
