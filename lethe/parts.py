"""The parts of a hall (point 6.1): the fields that erase and lasting_files read, set in one place."""

from lethe.edges import Edges
from lethe.log import Log
from lethe.pins import Pins
from lethe.snaps import Snaps
from lethe.store import Store


class Parts:
    """The parts of an empty hall."""

    def __init__(self, seed):
        self.seed = seed
        self.store = Store(seed)
        self.edges = Edges()
        self.log = Log()
        self.snaps = Snaps(seed)
        self.pins = Pins()
        self.transactions = {}
