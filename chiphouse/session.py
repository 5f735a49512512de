"""The one object that a list of calls is asked of."""

from chiphouse.machine import Machine, copy_machine
from chiphouse.refusals import NOT_THERE, OUT_OF_RANGE
from chiphouse.world import World, copy_world

MOST_SAVED = 4


class Session:
    """saved has a pair (machine, world) for each number at which they were saved."""

    def __init__(self):
        self.machine = Machine()
        self.world = World()
        self.stops = {}
        self.saved = {}


def start_anew(session):
    # Not a new Session: what's saved stays.
    session.machine = Machine()
    session.world = World()
    session.stops = {}
    return [0]


def save_at(session, k):
    if k >= MOST_SAVED:
        return [OUT_OF_RANGE]
    session.saved[k] = (copy_machine(session.machine), copy_world(session.world))
    return [0]


def back_to(session, k):
    if k not in session.saved:
        return [NOT_THERE]
    pair = session.saved[k]
    # Copied here, too: steps that follow must not reach what's saved.
    session.machine = copy_machine(pair[0])
    session.world = copy_world(pair[1])
    return [0]
