"""The refusals of the lane."""


class LaneError(ValueError):
    pass


class NoOwner(LaneError):
    pass


class NoPages(LaneError):
    pass


class Broke(LaneError):
    pass


class NoJob(LaneError):
    pass
