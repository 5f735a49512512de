"""The one object that a list of calls is asked of."""

from chiphouse.machine import Machine
from chiphouse.world import World


class Session:
    def __init__(self):
        self.machine = Machine()
        self.world = World()
        self.stops = {}


def start_anew(session):
    # Not a new Session: what a session will have saved outlives this call.
    session.machine = Machine()
    session.world = World()
    session.stops = {}
    return [0]
