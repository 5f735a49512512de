"""The stops: a dict with True for each address that is one."""

from chiphouse.refusals import NOT_THERE, TOO_MANY

MOST_STOPS = 16


def add_stop(stops, p):
    if p in stops:
        return [0]
    if len(stops) >= MOST_STOPS:
        return [TOO_MANY]
    stops[p] = True
    return [1]


def clear_stop(stops, p):
    if p not in stops:
        return [NOT_THERE]
    stops.pop(p)
    return [0]
