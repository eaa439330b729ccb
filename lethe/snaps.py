"""The snapshots of a hall (points 6.2, 6.10, 6.16 and 6.20)."""

from lethe.errors import BadForm, Full, Missing, Twice
from lethe.packing import pack, unpack
from lethe.store import erase_record, is_held, store_of_map
from lethe.words import is_name

MAX_SNAPS = 2

PARTS_OF_SNAP = 2


class Snaps:
    """Snapshots under names, each the image of the map of a store."""

    def __init__(self, seed):
        self._seed = seed
        self._images = {}

    def take(self, name, image):
        """Add a snapshot."""
        if name in self._images:
            raise Twice("there is a snapshot of this name")
        if len(self._images) >= MAX_SNAPS:
            raise Full("there are at most 2 snapshots")
        self._images[name] = image

    def remove_one(self, name):
        """Remove a snapshot."""
        self._check_there(name)
        del self._images[name]

    def answer(self, name, line):
        """Return the answer of a snapshot to a question."""
        self._check_there(name)
        return self._store_of(name).run(line)

    def names(self):
        """Return the names, ascending."""
        return sorted(self._images)

    def held(self, key):
        """Tell whether the record of the key in some snapshot has a holder."""
        return any([is_held(self._store_of(name), key) for name in self.names()])

    def erase(self, key):
        """Remove the record of the key from all snapshots."""
        for name in self.names():
            store = self._store_of(name)
            erase_record(store, key)
            self._images[name] = store.map_image()

    def image(self):
        """Return the text of the file of the snapshots."""
        parts = []
        for name in self.names():
            parts.extend([name, self._images[name]])
        return pack(parts)

    def _check_there(self, name):
        if name not in self._images:
            raise Missing("there is no snapshot of this name")

    def _store_of(self, name):
        """Return a new store with the records of a snapshot."""
        return store_of_map(self._seed, self._images[name])


def load_snaps(seed, text):
    """Return the snapshots with this image."""
    parts = unpack(text)
    if len(parts) % PARTS_OF_SNAP != 0:
        raise BadForm("a part of a snapshot is missing")
    snaps = Snaps(seed)
    try:
        for k in range(0, len(parts), PARTS_OF_SNAP):
            check_snap(seed, parts[k], parts[k + 1])
            snaps.take(parts[k], parts[k + 1])
    except (Twice, Full):
        raise BadForm("a name is there twice, or there are more than 2 snapshots") from None
    # Only the image itself tells that the names are ascending.
    if snaps.image() != text:
        raise BadForm("the names are not ascending")
    return snaps


def check_snap(seed, name, image):
    """Raise an error if there can be no snapshot of this name with this image."""
    if not is_name(name):
        raise BadForm("the name of a snapshot is no name")
    store_of_map(seed, image)
