"""The refusals."""


class LaneError(ValueError):
    pass


class NoPlace(LaneError):
    pass


class NoWay(LaneError):
    pass


class NoTie(LaneError):
    pass
