"""A day of the lane: its deeds, told as answers, as ticks and as accounts."""

from printlane.errors import Broke, NoJob, NoOwner, NoPages
from printlane.lane import Lane


def answers(limit, pause, budgets, deeds):
    lane = Lane(limit, pause, budgets)
    told = []
    for deed in deeds:
        told.append(answered(lane, deed))
    return told


def diary(limit, pause, budgets, deeds):
    lane = Lane(limit, pause, budgets)
    told = []
    for deed in deeds:
        # The answer to a run is only a number: its ticks are asked for in its place.
        if deed[0] == "run":
            told.extend(lane.ticks(deed[1]))
        else:
            answered(lane, deed)
    return told


def accounts(limit, pause, budgets, deeds):
    lane = Lane(limit, pause, budgets)
    for deed in deeds:
        answered(lane, deed)
    return lane.tallies()


def answered(lane, deed):
    try:
        return done(lane, deed)
    except NoOwner:
        return "no owner"
    except NoPages:
        return "no pages"
    except Broke:
        return "broke"
    except NoJob:
        return "no job"


def done(lane, deed):
    if deed[0] == "send":
        return lane.send(deed[1], deed[2])
    if deed[0] == "stop":
        return lane.stop(deed[1])
    if deed[0] == "run":
        return lane.run(deed[1])
    lane.grant(deed[1], deed[2])
    return "done"
