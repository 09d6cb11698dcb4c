"""The refusals, one class for each."""


class LotError(ValueError):
    pass


class NoWay(LotError):
    def __init__(self, place):
        self.place = place


class NoJoin(LotError):
    def __init__(self, place):
        self.place = place


class NoStep(LotError):
    def __init__(self, place):
        self.place = place


class NoHouse(LotError):
    def __init__(self, place):
        self.place = place


class NoWeb(LotError):
    pass


class NoPrice(LotError):
    pass


class TooMany(LotError):
    pass


class Closed(LotError):
    pass


class Free(LotError):
    pass


class Nothing(LotError):
    pass


class NoNumber(LotError):
    pass


class NoText(LotError):
    pass


class NoLine(LotError):
    pass
