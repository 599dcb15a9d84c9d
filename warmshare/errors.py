"""The refusals: each is a class of its own, straight under HeatError."""


class HeatError(ValueError):
    pass


class NoRow(HeatError):
    pass


class NoMeasure(HeatError):
    pass


class WrongWay(HeatError):
    pass


class Full(HeatError):
    pass


class NoStream(HeatError):
    pass
