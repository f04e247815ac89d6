"""The pages and rests of the press, tick by tick."""


def ticked(limit, pause, hot, resting, waiting):
    if resting > 0:
        return rested(hot, resting)
    if waiting:
        return printed(limit, pause, hot + 1)
    return ("idle", 0, 0)


def rested(hot, resting):
    # The count is kept until the last rest tick: only a whole rest cools the press.
    if resting > 1:
        return ("rest", hot, resting - 1)
    return ("rest", 0, 0)


def printed(limit, pause, hot):
    if hot < limit:
        return ("page", hot, 0)
    if pause > 0:
        return ("page", hot, pause)
    # A pause of nought has no last rest tick that could bring the count to nought.
    return ("page", 0, 0)
